/-
  A new waiter, of the reference model and of the program; lists lie in memory and hold at most 2 ^ 40 elements.
  The program's touches of sending that number, look, call and end, on hands and channels that are kept whole; the lists are the call's own.
  The program's touches of sending that write: laying, keeping, waiting, calling, done; on hands and channels that are kept whole; the lists are the call's own.
  The contracts of the program's Laid and Turned; no condition.
  The program's turning of a cell in a channel and its seeing of one, on hands and channels that are kept whole; the lists are the call's own.
  The program's growing, numbering and turning of receiving, on hands and channels that are kept whole; the lists are the call's own.
-/
import Derived.Test.YthfbnjfppjmgfaaGreatP15
import Derived.Test.YthfbnjfppjmgfaaGreatP01
import Derived.Deep.AppendLies
import Derived.BigRegion
import Derived.Deep.DeepCutAuto
import Derived.Test.YthfbnjfppjmgfaaGreatP12
import Derived.Test.YthfbnjfppjmgfaaGreatP13
import Derived.Test.YthfbnjfppjmgfaaGreatP03
import Derived.Deep.RegionHeld3
set_option linter.unusedSimpArgs false
set_option linter.unusedVariables false
namespace Go.Proofs.YthfbnjfppjmgfaaGreat
open Go.RowKit
set_option linter.unusedSimpArgs false
theorem waitC_no {c:Ch} (h:chanOk c=false):waitC c=Ch.zero∧waitN c=0:=by simp [waitC,waitN,h]
theorem waitC_full {c:Ch} (h:chanOk c=true) (h2:80≤c.words.length):waitC c=c∧waitN c=0:=by simp [waitC,waitN,h,h2]
theorem waitC_more {c:Ch} (h:chanOk c=true) (h2:¬ 80≤c.words.length):waitC c={ c with words:=c.words ++ [0] }∧waitN c=c.words.length+1:=by simp [waitC,waitN,h,h2]
set_option maxRecDepth 100000 in
set_option maxHeartbeats 1000000 in
theorem waiter_any (c:Ch) (a b:Option Addr) (p q:Nat) (w:World) (h1:Seg w w.heap.size a c.cells.length 3 (cellF c.cells)) (z1:a=none→p=0) (h2:Seg w w.heap.size b c.words.length 1 (intF c.words)) (z2:b=none→q=0) (m1:c.cells.length≤1099511627776) (m2:c.words.length≤1099511627776) :
    Calls Tryz.prog 109 #[.agg #[.int .i64 c.cap,.int .i64 c.sent,.int .i64 c.got,.int .i64 c.fin,.slice a c.cells.length p,.slice b c.words.length q]] w fun r w' =>
      (∃ v1 v2,r=.returned (.tuple #[.agg #[.int .i64 (waitC c).cap,.int .i64 (waitC c).sent,.int .i64 (waitC c).got,.int .i64 (waitC c).fin,v1,v2],.int .i64 (waitN c)])∧OCells w' w.heap.size v1 (waitC c).cells∧OInts w' w.heap.size v2 (waitC c).words)∧Below w.heap.size w w':=by
  have H1:=Lib.hid h1
  have H2:=Lib.hid h2
  have Z1:=Lib.hid z1
  have Z2:=Lib.hid z2
  have n1:c.cells.length≤maxLen:=by unfold maxLen;omega
  have n2:c.words.length≤maxLen:=by unfold maxLen;omega
  clear h1 h2 z1 z2
  by_cases hc:chanOk c=true
  · by_cases hf:80≤c.words.length
    · have hf80:c.words.length=80:=by
        have:=hc
        simp [chanOk,chanHead] at this
        omega
      have E:=Lib.hid (waitC_full hc hf)
      have hfi:(80:Int)≤(c.words.length:Int):=by omega
      have HFE:Hid ((c.words.length:Int)=80):=Lib.hid (by omega)
      clear hf80
      go_enter Tryz.func109,Tryz.ntmps109
      go_wp2_with fail;refine bHit w (by exact zB) fun bb=>?_;refine (chanOk_any c a b p q _ ((H1.out.below bb).more bb.size) ((H2.out.below bb).more bb.size) n1 n2).mono ?_;rintro _ w1 ⟨rfl,hbw1⟩;have hCw1:Below w.heap.size w w1:=bT bb hbw1;have hsw1:=hbw1.size;(try simp at hsw1);have zz:=And.intro (fun o=>hbw1.cell (p:=⟨w.heap.size+1,o,none⟩) (by (try simp) <;> omega)) <| And.intro (fun o=>hbw1.frozen (p:=⟨w.heap.size+1,o,none⟩) (by (try simp) <;> omega)) <| And.intro (fun o=>hbw1.cell (p:=⟨w.heap.size,o,none⟩) (by (try simp) <;> omega)) <| fun o=>hbw1.frozen (p:=⟨w.heap.size,o,none⟩) (by (try simp) <;> omega);(try simp [go_sem] at zz);(try clear x_wp f_wp);(try clear x_w f_w);obtain ⟨x_wp,f_wp,x_w,f_w⟩:=zz;(try clear l_wp);have l_wp:w.heap.size+1<w1.heap.size:=(by omega);(try clear l_w);have l_w:w.heap.size<w1.heap.size:=(by omega);clear hbw1 bb
      rw [hc]
      go_wp2_with fail;refine bHit w (by exact zB) fun bb=>?_;refine (copied_any c a b p q _ ((H1.out.below bb).more bb.size) Z1.out ((H2.out.below bb).more bb.size) Z2.out m1 m2).mono ?_;rintro _ w2 ⟨⟨v1,v2,rfl,o1,o2⟩,hbw2⟩;have hCw2:Below w.heap.size w w2:=bT bb hbw2;have hsw2:=hbw2.size;(try simp at hsw2);have zz:=And.intro (fun o=>hbw2.cell (p:=⟨w.heap.size+1,o,none⟩) (by (try simp) <;> omega)) <| And.intro (fun o=>hbw2.frozen (p:=⟨w.heap.size+1,o,none⟩) (by (try simp) <;> omega)) <| And.intro (fun o=>hbw2.cell (p:=⟨w.heap.size,o,none⟩) (by (try simp) <;> omega)) <| fun o=>hbw2.frozen (p:=⟨w.heap.size,o,none⟩) (by (try simp) <;> omega);(first|simp [go_sem,x_wp,f_wp,x_w,f_w,l_w,l_wp] at zz|simp [go_sem,x_wp,x_w,l_w,l_wp] at zz|simp [go_sem] at zz|skip);(try clear x_wp f_wp);(try clear x_w f_w);obtain ⟨x_wp,f_wp,x_w,f_w⟩:=zz;(try clear l_wp);have l_wp:w.heap.size+1<w2.heap.size:=(by omega);(try clear l_w);have l_w:w.heap.size<w2.heap.size:=(by omega);clear hbw2 bb
      try simp at o1 o2
      have O1:=Lib.hid o1
      have O2:=Lib.hid o2
      obtain ⟨va,vc,rfl,_⟩:=OCells.seg o1
      obtain ⟨vb,vd,rfl,_⟩:=OInts.seg o2
      clear o1 o2
      have hfe:=HFE.out
      go_wp2_with fail
      have o1:=O1.out
      have o2:=O2.out
      obtain ⟨e1,e2⟩:=E.out
      rw [e1,e2]
      refine bodyPost_ret (v:=.tuple #[.agg #[.int .i64 c.cap,.int .i64 c.sent,.int .i64 c.got,.int .i64 c.fin,.slice va c.cells.length vc,.slice vb c.words.length vd],.int .i64 0]) (by simp [results,Tryz.results109,go_sem, *]) rfl ⟨⟨_,_,rfl,own_lo (lo:=w1.heap.size) ?_ (by omega),own_lo (lo:=w1.heap.size) ?_ (by omega)⟩,by exact zB⟩
      · exact zO o1 o1
      · exact zO o2 o2
    · have E:=Lib.hid (waitC_more hc hf)
      have hfi:¬ (80:Int)≤(c.words.length:Int):=by omega
      have hfe:(c.words.length:Int)≠80:=by omega
      obtain ⟨i0,hi0,hz0,hz1,hz2⟩:=info_parts infoInt
      go_enter Tryz.func109,Tryz.ntmps109
      go_wp2_with fail;refine bHit w (by exact zB) fun bb=>?_;refine (chanOk_any c a b p q _ ((H1.out.below bb).more bb.size) ((H2.out.below bb).more bb.size) n1 n2).mono ?_;rintro _ w1 ⟨rfl,hbw1⟩;have hCw1:Below w.heap.size w w1:=bT bb hbw1;have hsw1:=hbw1.size;(try simp at hsw1);have zz:=And.intro (fun o=>hbw1.cell (p:=⟨w.heap.size+1,o,none⟩) (by (try simp) <;> omega)) <| And.intro (fun o=>hbw1.frozen (p:=⟨w.heap.size+1,o,none⟩) (by (try simp) <;> omega)) <| And.intro (fun o=>hbw1.cell (p:=⟨w.heap.size,o,none⟩) (by (try simp) <;> omega)) <| fun o=>hbw1.frozen (p:=⟨w.heap.size,o,none⟩) (by (try simp) <;> omega);(try simp [go_sem] at zz);(try clear x_wp f_wp);(try clear x_w f_w);obtain ⟨x_wp,f_wp,x_w,f_w⟩:=zz;(try clear l_wp);have l_wp:w.heap.size+1<w1.heap.size:=(by omega);(try clear l_w);have l_w:w.heap.size<w1.heap.size:=(by omega);clear hbw1 bb
      rw [hc]
      go_wp2_with fail;refine bHit w (by exact zB) fun bb=>?_;refine (copied_any c a b p q _ ((H1.out.below bb).more bb.size) Z1.out ((H2.out.below bb).more bb.size) Z2.out m1 m2).mono ?_;rintro _ w2 ⟨⟨v1,v2,rfl,o1,o2⟩,hbw2⟩;have hCw2:Below w.heap.size w w2:=bT bb hbw2;have hsw2:=hbw2.size;(try simp at hsw2);have zz:=And.intro (fun o=>hbw2.cell (p:=⟨w.heap.size+1,o,none⟩) (by (try simp) <;> omega)) <| And.intro (fun o=>hbw2.frozen (p:=⟨w.heap.size+1,o,none⟩) (by (try simp) <;> omega)) <| And.intro (fun o=>hbw2.cell (p:=⟨w.heap.size,o,none⟩) (by (try simp) <;> omega)) <| fun o=>hbw2.frozen (p:=⟨w.heap.size,o,none⟩) (by (try simp) <;> omega);(first|simp [go_sem,x_wp,f_wp,x_w,f_w,l_w,l_wp] at zz|simp [go_sem,x_wp,x_w,l_w,l_wp] at zz|simp [go_sem] at zz|skip);(try clear x_wp f_wp);(try clear x_w f_w);obtain ⟨x_wp,f_wp,x_w,f_w⟩:=zz;(try clear l_wp);have l_wp:w.heap.size+1<w2.heap.size:=(by omega);(try clear l_w);have l_w:w.heap.size<w2.heap.size:=(by omega);clear hbw2 bb
      try simp at o1 o2
      have O1:=Lib.hid o1
      have O2:=Lib.hid o2
      obtain ⟨va,vc,rfl,_⟩:=OCells.seg o1
      obtain ⟨vb,vd,rfl,_⟩:=OInts.seg o2
      clear o1 o2
      have o1:=O1.out
      have o2:=O2.out
      have b2:=fun j (hj:(Value.slice vb c.words.length vd).ownBlock=some j)=>o2.lt j hj
      have mw:∀ j,j<w1.heap.size∨w2.heap.size≤j→some j≠(Value.slice vb c.words.length vd).ownBlock:=fun j hj e=>by have:=b2 _ e.symm;omega
      have mw0:=mw w.heap.size (by omega)
      have mw1:=mw (w.heap.size+1) (by omega)
      have mw2:=mw w2.heap.size (by omega)
      go_wp2_with (at_builtin;refine wpList_append_lies _ rfl _ _ 23 rfl w1.heap.size 2 i0 _ 1 8 Tryz.underlying23 hi0 hz0 hz1 hz2 rfl (by decide) (.slice vb c.words.length vd) c.words.length (ints c.words) rfl (World.ownsRow.alloc (World.ownsRow.alloc o2 _) _) ⟨w2.heap.size+1,0,none⟩ 1 1 [.int .i64 0] rfl rfl ?c2 (by simp [Value.oneCell']) (by omega) ?c3 ?c4 ?c5 (w2.heap.size+1+1) (by simp) ?_)
      case c2=>have:=cell_one_new (w2.alloc (.cells #[.int .i64 c.cap,.int .i64 c.sent,.int .i64 c.got,.int .i64 c.fin,.slice va c.cells.length vc,.slice vb c.words.length vd] 34)) (.int .i64 0) 2;simpa using this
      case c3=>unfold maxLen;omega
      case c4=>omega
      case c5=>simp;omega
      intro g4b q4 w4 o4 g4 hat hlt4
      have l_w2:w2.heap.size<w2.heap.size+1:=by omega
      have hsw4:=g4.size;(try (simp at hsw4));have zz:=And.intro (fun o=>g4.cell_far ⟨w2.heap.size,o,none⟩ (by (try simp) <;> omega) (by assumption)) <| And.intro (fun o=>g4.frozen_far ⟨w2.heap.size,o,none⟩ (by (try simp) <;> omega) (by assumption)) <| And.intro (fun o=>g4.cell_far ⟨w.heap.size+1,o,none⟩ (by (try simp) <;> omega) (by assumption)) <| And.intro (fun o=>g4.frozen_far ⟨w.heap.size+1,o,none⟩ (by (try simp) <;> omega) (by assumption)) <| And.intro (fun o=>g4.cell_far ⟨w.heap.size,o,none⟩ (by (try simp) <;> omega) (by assumption)) <| fun o=>g4.frozen_far ⟨w.heap.size,o,none⟩ (by (try simp) <;> omega) (by assumption);(first|simp [go_sem,x_wp,f_wp,x_w,f_w,l_w,l_w2,l_wp] at zz|simp [go_sem,x_wp,x_w,l_w,l_w2,l_wp] at zz|simp [go_sem] at zz|skip);(try clear x_w2 f_w2);(try clear x_wp f_wp);(try clear x_w f_w);obtain ⟨x_w2,f_w2,x_wp,f_wp,x_w,f_w⟩:=zz;(try clear l_w2);have l_w2:w2.heap.size<w4.heap.size:=(by omega);(try clear l_wp);have l_wp:w.heap.size+1<w4.heap.size:=(by omega);(try clear l_w);have l_w:w.heap.size<w4.heap.size:=(by omega)
      have p1:OCells w4 w1.heap.size (.slice va c.cells.length vc) c.cells:=((World.ownsRow.alloc (World.ownsRow.alloc o1 _) _)).kept g4 (own_off o1 o2)
      have p2:OInts w4 w1.heap.size (.slice (some ⟨g4b,0,none⟩) (c.words.length+1) q4) (c.words ++ [0]):=OInts.snoc o4
      have hgb:∀ j,j<w1.heap.size∨(w2.heap.size≤j∧j<w2.heap.size+1)→(Value.slice (some ⟨g4b,0,none⟩) (c.words.length+1) q4).ownBlock≠some j:=fun j h1 e=>by
        have e2:g4b=j:=by simpa [Value.ownBlock] using e
        rcases hat with hat|hat
        · have:=b2 _ hat;omega
        · omega
      have hB4:Below w.heap.size w w4:=bOwn (by exact zB) g4 (by (try simp) <;> omega) (fun k hk=>by have:=(b2 k hk).1;omega)
      clear o4 g4
      go_wp2_with fail
      go_region
      all_goals go_wp2_with fail
      all_goals (obtain ⟨e1,e2⟩:=E.out;rw [e1,e2])
      all_goals refine bodyPost_ret (v:=.tuple #[.agg #[.int .i64 c.cap,.int .i64 c.sent,.int .i64 c.got,.int .i64 c.fin,.slice va c.cells.length vc,.slice (some ⟨g4b,0,none⟩) (c.words.length+1) q4],.int .i64 (c.words.length+1)]) (by simp [results,Tryz.results109,go_sem, *]) rfl ⟨⟨_,_,rfl,own_lo (lo:=w1.heap.size) ?_ (by omega),own_lo (lo:=w1.heap.size) ?_ (by omega)⟩,by exact zB⟩
      all_goals first|(repeat first|with_reducible exact p1|with_reducible refine oAl ?_ _|with_reducible refine oDr ?_|((with_reducible first|refine own_store ?_ ?_ _|refine own_box ?_ ?_);rotate_left;focus first|(refine own_ne o1 ?_;(try dsimp only);omega)|(refine own_ne' o1 ?_;(try dsimp only);omega)))|skip
      all_goals (first|(repeat first|with_reducible exact p2|with_reducible refine oAl ?_ _|with_reducible refine oDr ?_|((with_reducible first|refine own_store ?_ ?_ _|refine own_box ?_ ?_);rotate_left;focus first|(refine own_ne p2 ?_;(try dsimp only);omega)|(refine own_ne' p2 ?_;(try dsimp only);omega)|exact hgb _ (by (try dsimp only) <;> omega)))|skip)
  · have hc2:chanOk c=false:=by simpa using hc
    have E:=Lib.hid (waitC_no hc2)
    clear hc
    go_enter Tryz.func109,Tryz.ntmps109
    go_wp2_with fail;refine bHit w (by exact zB) fun bb=>?_;refine (chanOk_any c a b p q _ ((H1.out.below bb).more bb.size) ((H2.out.below bb).more bb.size) n1 n2).mono ?_;rintro _ w1 ⟨rfl,hbw1⟩;have hCw1:Below w.heap.size w w1:=bT bb hbw1;have hsw1:=hbw1.size;(try simp at hsw1);have zz:=And.intro (fun o=>hbw1.cell (p:=⟨w.heap.size+1,o,none⟩) (by (try simp) <;> omega)) <| And.intro (fun o=>hbw1.frozen (p:=⟨w.heap.size+1,o,none⟩) (by (try simp) <;> omega)) <| And.intro (fun o=>hbw1.cell (p:=⟨w.heap.size,o,none⟩) (by (try simp) <;> omega)) <| fun o=>hbw1.frozen (p:=⟨w.heap.size,o,none⟩) (by (try simp) <;> omega);(try simp [go_sem] at zz);(try clear x_wp f_wp);(try clear x_w f_w);obtain ⟨x_wp,f_wp,x_w,f_w⟩:=zz;(try clear l_wp);have l_wp:w.heap.size+1<w1.heap.size:=(by omega);(try clear l_w);have l_w:w.heap.size<w1.heap.size:=(by omega);clear hbw1 bb
    rw [hc2]
    go_wp2
    rw [E.out.1,E.out.2]
    refine bodyPost_ret (v:=.tuple #[.agg #[.int .i64 Ch.zero.cap,.int .i64 Ch.zero.sent,.int .i64 Ch.zero.got,.int .i64 Ch.zero.fin,.slice none 0 0,.slice none 0 0],.int .i64 0]) (by simp [results,Tryz.results109,go_sem,Ch.zero, *]) rfl ⟨⟨_,_,rfl,World.ownsRow_nil _ _ _ _,World.ownsRow_nil _ _ _ _⟩,by exact zB⟩
end Go.Proofs.YthfbnjfppjmgfaaGreat
set_option linter.unusedSimpArgs false
set_option linter.unusedVariables false
namespace Go.Proofs.YthfbnjfppjmgfaaGreat
open Go.RowKit
set_option linter.unusedSimpArgs false
attribute [local simp] bx_size
attribute [local go_sem ↓] zeroHand zeroChan toLHand toLChan toVHand toVChan storeHand storeChan storeHandC storeChanC
end Go.Proofs.YthfbnjfppjmgfaaGreat
set_option linter.unusedSimpArgs false
set_option linter.unusedVariables false
namespace Go.Proofs.YthfbnjfppjmgfaaGreat
open Go.RowKit
set_option linter.unusedSimpArgs false
attribute [local simp] bx_size
attribute [local go_sem ↓] zeroHand zeroChan toLHand toLChan toVHand toVChan storeHand storeChan storeHandC storeChanC
theorem own_zcap {w:World} {lo:Nat} {e:TypeId} {k n p m:Nat} {a:Option Addr} {xs:List Value} (h:w.ownsRow lo e k (.slice a n p) m xs) (ha:a=none):p=0:=by
  rcases h.2 with ⟨h1,_⟩|⟨g,cap,cur,h1,_⟩
  · simp at h1;exact h1.2.2
  · subst ha;simp at h1
theorem tellC_ints (c:Ch) (v x:Int) (a b:Value):cvals (tellC c v x) a b=cvals c a b:=by unfold tellC;split <;> rfl
theorem chan_len {c:Ch} (e:chanOk c=true):c.cells.length=40∧c.words.length≤80:=by
  simp [chanOk,chanHead] at e
  omega
theorem pTold_any (c:Ch) (v x:Int) (v1 v2:Value) (lo:Nat) (w:World) (h1:OCells w lo v1 c.cells) (h2:OInts w lo v2 c.words) (hc:chanOk c=true) :
    Calls Tryz.prog 103 #[.agg (cvals c v1 v2),.int .i64 v,.int .i64 x] w fun r w'=>(∃ y1 y2,r=.returned (.tuple #[.agg (cvals c y1 y2),.bool (tellB c v x)])∧OCells w' w.heap.size y1 c.cells∧OInts w' w.heap.size y2 (tellC c v x).words)∧Below w.heap.size w w':=by
  obtain ⟨n1,n2⟩:=chan_len hc
  obtain ⟨a,p,rfl,g1⟩:=h1.seg
  obtain ⟨b,q,rfl,g2⟩:=h2.seg
  refine (told_any c v x a b p q w g1 (own_zcap h1) g2 (own_zcap h2) (by omega) (by omega)).mono ?_
  rintro _ w' ⟨⟨y1,y2,rfl,k1,k2⟩,hb⟩
  obtain ⟨e1,e2⟩:=told_yes (v:=v) (x:=x) hc
  rw [e1] at k1 k2
  rw [(tellC_cells c v x).1] at k1
  refine ⟨⟨y1,y2,?_,k1,k2⟩,hb⟩
  rw [e1,e2]
  show Ending.returned (.tuple #[.agg (cvals (tellC c v x) y1 y2),_])=_
  rw [tellC_ints]
theorem pFull_any (c:Ch) (v1 v2:Value) (lo:Nat) (w:World) (h1:OCells w lo v1 c.cells) (h2:OInts w lo v2 c.words) (hc:chanOk c=true) (hf:80≤c.words.length) :
    Calls Tryz.prog 109 #[.agg (cvals c v1 v2)] w fun r w'=>(∃ y1 y2,r=.returned (.tuple #[.agg (cvals c y1 y2),.int .i64 0])∧OCells w' w.heap.size y1 c.cells∧OInts w' w.heap.size y2 c.words)∧Below w.heap.size w w':=by
  obtain ⟨n1,n2⟩:=chan_len hc
  obtain ⟨a,p,rfl,g1⟩:=h1.seg
  obtain ⟨b,q,rfl,g2⟩:=h2.seg
  refine (waiter_any c a b p q w g1 (own_zcap h1) g2 (own_zcap h2) (by omega) (by omega)).mono ?_
  rintro _ w' ⟨⟨y1,y2,rfl,k1,k2⟩,hb⟩
  obtain ⟨e1,e2⟩:=waitC_full hc hf
  rw [e1] at k1 k2
  refine ⟨⟨y1,y2,?_,k1,k2⟩,hb⟩
  rw [e1,e2]
  rfl
theorem pMore_any (c:Ch) (v1 v2:Value) (lo:Nat) (w:World) (h1:OCells w lo v1 c.cells) (h2:OInts w lo v2 c.words) (hc:chanOk c=true) (hf:¬ 80≤c.words.length) :
    Calls Tryz.prog 109 #[.agg (cvals c v1 v2)] w fun r w'=>(∃ y1 y2,r=.returned (.tuple #[.agg (cvals c y1 y2),.int .i64 ((c.words.length:Int)+1)])∧OCells w' w.heap.size y1 c.cells∧OInts w' w.heap.size y2 (c.words ++ [0]))∧Below w.heap.size w w':=by
  obtain ⟨n1,n2⟩:=chan_len hc
  obtain ⟨a,p,rfl,g1⟩:=h1.seg
  obtain ⟨b,q,rfl,g2⟩:=h2.seg
  refine (waiter_any c a b p q w g1 (own_zcap h1) g2 (own_zcap h2) (by omega) (by omega)).mono ?_
  rintro _ w' ⟨⟨y1,y2,rfl,k1,k2⟩,hb⟩
  obtain ⟨e1,e2⟩:=waitC_more hc hf
  rw [e1] at k1 k2
  refine ⟨⟨y1,y2,?_,k1,k2⟩,hb⟩
  rw [e1,e2]
  rfl
/-- What a call answers that writes into nothing that was there. -/
def StepB (w w':World) (lo:Nat) (v1 v2:Value) (x:St) (r:Ending):Prop:=StepR w w' lo v1 v2 x r∧Below w.heap.size w w'
set_option maxRecDepth 100000 in
set_option maxHeartbeats 2000000 in
theorem woken_yes (c:Ch) (y z:Ha) (v1 v2:Value) (lo:Nat) (w:World) (h1:OCells w lo v1 c.cells) (h2:OInts w lo v2 c.words) (hc:chanOk c=true) (hlo:lo≤w.heap.size) (ht:tellB c y.wait 1=true) :
    Calls Tryz.prog 88 #[.agg (cvals c v1 v2),.agg (hvals y),.agg (hvals z)] w fun r w'=>StepB w w' lo v1 v2 ((tellC c y.wait 1,y,true)) r:=by
  have b1:=fun j (hj:v1.ownBlock=some j)=>(h1.lt j hj).2
  have b2:=fun j (hj:v2.ownBlock=some j)=>(h2.lt j hj).2
  obtain ⟨a1,q1,rfl,_⟩:=h1.seg
  obtain ⟨a2,q2,rfl,_⟩:=h2.seg
  have O1:=Lib.hid h1
  have O2:=Lib.hid h2
  clear h1 h2
  have o1:=O1.out
  have o2:=O2.out
  go_enter Tryz.func88,Tryz.ntmps88
  go_wp2_with fail;refine bHit w (by exact zB) fun bb=>?_;refine (pTold_any c y.wait 1 _ _ lo _ (by exact zO o1 o1) (by exact zO o2 o2) hc).mono ?_;rintro _ w1 ⟨⟨y1,y2,rfl,oY1,oY2⟩,hbw1⟩;have hCw1:Below w.heap.size w w1:=bT bb hbw1;have hsw1:=hbw1.size;(try simp at hsw1);have zz:=And.intro (hQ hbw1 (b:=w.heap.size+1+1+1+1)) <| And.intro (hQ hbw1 (b:=w.heap.size+1+1+1)) <| And.intro (hQ hbw1 (b:=w.heap.size+1+1)) <| And.intro (hQ hbw1 (b:=w.heap.size+1)) <| hQ hbw1 (b:=w.heap.size);(try simp [go_sem] at zz);(try clear z_wpppp x_wpppp f_wpppp l_wpppp);(try clear z_wppp x_wppp f_wppp l_wppp);(try clear z_wpp x_wpp f_wpp l_wpp);(try clear z_wp x_wp f_wp l_wp);(try clear z_w x_w f_w l_w);obtain ⟨z_wpppp,z_wppp,z_wpp,z_wp,z_w⟩:=zz;obtain ⟨x_wpppp,f_wpppp,l_wpppp⟩:=bO z_wpppp;obtain ⟨x_wppp,f_wppp,l_wppp⟩:=bO z_wppp;obtain ⟨x_wpp,f_wpp,l_wpp⟩:=bO z_wpp;obtain ⟨x_wp,f_wp,l_wp⟩:=bO z_wp;obtain ⟨x_w,f_w,l_w⟩:=bO z_w;have hKw1:Below w.heap.size w w1:=hCw1;clear hbw1 bb
  rw [ht]
  try simp at oY1 oY2
  have fY1:Fresh w (.slice a1 c.cells.length q1) y1:=fun j hj=>.inr (by have:=(oY1.lt j hj).1;(try simp at this);omega)
  have fY2:Fresh w (.slice a2 c.words.length q2) y2:=fun j hj=>.inr (by have:=(oY2.lt j hj).1;(try simp at this);omega)
  obtain ⟨ya,yp,rfl,_⟩:=oY1.seg
  obtain ⟨yb,yq,rfl,_⟩:=oY2.seg
  have r1:=own_lo (lo':=lo) oY1 (by omega)
  have r2:=own_lo (lo':=lo) oY2 (by omega)
  have k0:w.heap.size<w1.heap.size:=by omega
  have k1:w.heap.size+1<w1.heap.size:=by omega
  have k2:w.heap.size+1+1<w1.heap.size:=by omega
  have k3:w.heap.size+1+1+1<w1.heap.size:=by omega
  have k4:w.heap.size+1+1+1+1<w1.heap.size:=by omega
  go_wp2_with fail
  go_region
  go_wp2
  refine bodyPost_ret (res_cct Tryz.results88 rfl (ldChan c (.slice ya c.cells.length yp) (.slice yb (tellC c y.wait 1).words.length yq) (by simp [go_sem, *] <;> rfl)) rfl (ldHand y (by simp [go_sem, *] <;> rfl))) rfl ⟨⟨.slice ya c.cells.length yp,.slice yb (tellC c y.wait 1).words.length yq,by (rw [tellC_ints];rfl),?_,?_,fY1,fY2⟩,by exact zB⟩
  · show OCells _ lo _ (tellC c y.wait 1).cells
    rw [(tellC_cells c y.wait 1).1]
    exact zO r1 oY1
  · exact zO r2 oY2
set_option maxRecDepth 100000 in
set_option maxHeartbeats 2000000 in
theorem woken_no (c:Ch) (y z:Ha) (v1 v2:Value) (lo:Nat) (w:World) (h1:OCells w lo v1 c.cells) (h2:OInts w lo v2 c.words) (hc:chanOk c=true) (hlo:lo≤w.heap.size) (ht:tellB c y.wait 1=false) :
    Calls Tryz.prog 88 #[.agg (cvals c v1 v2),.agg (hvals y),.agg (hvals z)] w fun r w'=>StepB w w' lo v1 v2 ((c,z,true)) r:=by
  have b1:=fun j (hj:v1.ownBlock=some j)=>(h1.lt j hj).2
  have b2:=fun j (hj:v2.ownBlock=some j)=>(h2.lt j hj).2
  obtain ⟨a1,q1,rfl,_⟩:=h1.seg
  obtain ⟨a2,q2,rfl,_⟩:=h2.seg
  have O1:=Lib.hid h1
  have O2:=Lib.hid h2
  clear h1 h2
  have o1:=O1.out
  have o2:=O2.out
  go_enter Tryz.func88,Tryz.ntmps88
  go_wp2_with fail;refine bHit w (by exact zB) fun bb=>?_;refine (pTold_any c y.wait 1 _ _ lo _ (by exact zO o1 o1) (by exact zO o2 o2) hc).mono ?_;rintro _ w1 ⟨⟨y1,y2,rfl,oY1,oY2⟩,hbw1⟩;have hCw1:Below w.heap.size w w1:=bT bb hbw1;have hsw1:=hbw1.size;(try simp at hsw1);have zz:=And.intro (hQ hbw1 (b:=w.heap.size+1+1+1+1)) <| And.intro (hQ hbw1 (b:=w.heap.size+1+1+1)) <| And.intro (hQ hbw1 (b:=w.heap.size+1+1)) <| And.intro (hQ hbw1 (b:=w.heap.size+1)) <| hQ hbw1 (b:=w.heap.size);(try simp [go_sem] at zz);(try clear z_wpppp x_wpppp f_wpppp l_wpppp);(try clear z_wppp x_wppp f_wppp l_wppp);(try clear z_wpp x_wpp f_wpp l_wpp);(try clear z_wp x_wp f_wp l_wp);(try clear z_w x_w f_w l_w);obtain ⟨z_wpppp,z_wppp,z_wpp,z_wp,z_w⟩:=zz;obtain ⟨x_wpppp,f_wpppp,l_wpppp⟩:=bO z_wpppp;obtain ⟨x_wppp,f_wppp,l_wppp⟩:=bO z_wppp;obtain ⟨x_wpp,f_wpp,l_wpp⟩:=bO z_wpp;obtain ⟨x_wp,f_wp,l_wp⟩:=bO z_wp;obtain ⟨x_w,f_w,l_w⟩:=bO z_w;have hKw1:Below w.heap.size w w1:=hCw1;clear hbw1 bb
  rw [ht]
  obtain ⟨ya,yp,rfl,_⟩:=oY1.seg
  obtain ⟨yb,yq,rfl,_⟩:=oY2.seg
  have p1:=own_below o1 hKw1
  have p2:=own_below o2 hKw1
  have k0:w.heap.size<w1.heap.size:=by omega
  have k1:w.heap.size+1<w1.heap.size:=by omega
  have k2:w.heap.size+1+1<w1.heap.size:=by omega
  have k3:w.heap.size+1+1+1<w1.heap.size:=by omega
  have k4:w.heap.size+1+1+1+1<w1.heap.size:=by omega
  go_wp2_with fail
  go_region
  go_wp2
  refine bodyPost_ret (res_cct Tryz.results88 rfl (ldChan c (.slice a1 c.cells.length q1) (.slice a2 c.words.length q2) (by simp [go_sem, *] <;> rfl)) rfl (ldHand z (by simp [go_sem, *] <;> first|rfl|simp [seenAs,anew,hci]))) rfl ⟨⟨_,_,rfl,?_,?_,fresh_refl _ _,fresh_refl _ _⟩,by exact zB⟩
  · exact zO p1 o1
  · exact zO p2 o2
def wkS (c:Ch) (y z:Ha):St:=if tellB c y.wait 1 then (tellC c y.wait 1,y,true) else (c,z,true)
set_option maxRecDepth 100000 in
set_option maxHeartbeats 2000000 in
theorem woken_any (c:Ch) (y z:Ha) (v1 v2:Value) (lo:Nat) (w:World) (h1:OCells w lo v1 c.cells) (h2:OInts w lo v2 c.words) (hc:chanOk c=true) (hlo:lo≤w.heap.size) :
    Calls Tryz.prog 88 #[.agg (cvals c v1 v2),.agg (hvals y),.agg (hvals z)] w fun r w'=>StepB w w' lo v1 v2 (wkS c y z) r:=by
  cases ht:tellB c y.wait 1 with
  | true =>
    rw [show wkS c y z=(tellC c y.wait 1,y,true) by simp [wkS,ht]]
    exact woken_yes c y z v1 v2 lo w h1 h2 hc hlo ht
  | false =>
    rw [show wkS c y z=(c,z,true) by simp [wkS,ht]]
    exact woken_no c y z v1 v2 lo w h1 h2 hc hlo ht
end Go.Proofs.YthfbnjfppjmgfaaGreat
set_option linter.unusedSimpArgs false
set_option linter.unusedVariables false
namespace Go.Proofs.YthfbnjfppjmgfaaGreat
open Go.RowKit
set_option maxHeartbeats 400000 in
theorem turned_any (s e t f n v:Int) (w:World):Calls Tryz.prog 115 #[.agg #[.int .i64 s,.int .i64 e,.int .i64 t],.int .i64 f,.int .i64 n,.int .i64 v] w fun r w'=>TurnR s e t f n v r∧Below w.heap.size w w':=by
  by_cases hsf:s=f
  · subst hsf
    go_enter Tryz.func115,Tryz.ntmps115
    go_wp2_with (go_at_call 105;refine (cellOk_any _ _ _ _).mono ?_;rintro _ w1 ⟨rfl,hbw1⟩;have hBw1:Below w.heap.size w w1:=bT (by exact zB) hbw1;have hsw1:=hbw1.size;(try (simp at hsw1));have:=fun o=>hbw1.cell (p:=⟨w.heap.size,o,none⟩) (by ((try simp);(try omega)));have:=fun o=>hbw1.frozen (p:=⟨w.heap.size,o,none⟩) (by ((try simp);(try omega)));have:=fun o=>hbw1.cell (p:=⟨w.heap.size+1,o,none⟩) (by ((try simp);(try omega)));have:=fun o=>hbw1.frozen (p:=⟨w.heap.size+1,o,none⟩) (by ((try simp);(try omega)));have:=fun o=>hbw1.cell (p:=⟨w.heap.size+1+1,o,none⟩) (by ((try simp);(try omega)));have:=fun o=>hbw1.frozen (p:=⟨w.heap.size+1+1,o,none⟩) (by ((try simp);(try omega)));have:w.heap.size<w1.heap.size:=(by omega);have:w.heap.size≤w1.heap.size:=(by omega);have:w.heap.size≤w1.heap.size+1:=(by omega);have:w.heap.size+1<w1.heap.size:=(by omega);have:w.heap.size+1≤w1.heap.size:=(by omega);have:w.heap.size+1≤w1.heap.size+1:=(by omega);have:w.heap.size+1+1<w1.heap.size:=(by omega);have:w.heap.size+1+1≤w1.heap.size:=(by omega);have:w.heap.size+1+1≤w1.heap.size+1:=(by omega))
    all_goals first
      | (refine bodyPost_ret (v:=.tuple #[.agg #[.int .i64 n,.int .i64 e,.int .i64 v],.bool true]) (by simp [results,Tryz.results115,go_sem, *]) rfl ⟨turnR_yes (turn_4 ‹_› ‹_›),by exact zB⟩)
      | (refine bodyPost_ret (v:=.tuple #[.agg #[.int .i64 s,.int .i64 e,.int .i64 t],.bool false]) (by simp [results,Tryz.results115,go_sem, *]) rfl ⟨turnR_no (by first|exact turn_2 ‹_›|exact turn_3 ‹_›),by exact zB⟩)
  · go_enter Tryz.func115,Tryz.ntmps115
    go_wp2_with (go_at_call 105;refine (cellOk_any _ _ _ _).mono ?_;rintro _ w1 ⟨rfl,hbw1⟩;have hBw1:Below w.heap.size w w1:=bT (by exact zB) hbw1;have hsw1:=hbw1.size;(try (simp at hsw1));have:=fun o=>hbw1.cell (p:=⟨w.heap.size,o,none⟩) (by ((try simp);(try omega)));have:=fun o=>hbw1.frozen (p:=⟨w.heap.size,o,none⟩) (by ((try simp);(try omega)));have:=fun o=>hbw1.cell (p:=⟨w.heap.size+1,o,none⟩) (by ((try simp);(try omega)));have:=fun o=>hbw1.frozen (p:=⟨w.heap.size+1,o,none⟩) (by ((try simp);(try omega)));have:=fun o=>hbw1.cell (p:=⟨w.heap.size+1+1,o,none⟩) (by ((try simp);(try omega)));have:=fun o=>hbw1.frozen (p:=⟨w.heap.size+1+1,o,none⟩) (by ((try simp);(try omega)));have:w.heap.size<w1.heap.size:=(by omega);have:w.heap.size≤w1.heap.size:=(by omega);have:w.heap.size≤w1.heap.size+1:=(by omega);have:w.heap.size+1<w1.heap.size:=(by omega);have:w.heap.size+1≤w1.heap.size:=(by omega);have:w.heap.size+1≤w1.heap.size+1:=(by omega);have:w.heap.size+1+1<w1.heap.size:=(by omega);have:w.heap.size+1+1≤w1.heap.size:=(by omega);have:w.heap.size+1+1≤w1.heap.size+1:=(by omega))
    all_goals (refine bodyPost_ret (v:=.tuple #[.agg #[.int .i64 s,.int .i64 e,.int .i64 t],.bool false]) (by simp [results,Tryz.results115,go_sem, *]) rfl ⟨turnR_no (by first|exact turn_1 ‹_›|exact turn_2 ‹_›),by exact zB⟩)
end Go.Proofs.YthfbnjfppjmgfaaGreat
set_option linter.unusedSimpArgs false
set_option linter.unusedVariables false
namespace Go.Proofs.YthfbnjfppjmgfaaGreat
open Go.RowKit
set_option linter.unusedSimpArgs false
set_option maxRecDepth 100000 in
set_option maxHeartbeats 2000000 in
theorem turnedIn_any (c:Ch) (i:Nat) (f t v:Int) (v1 v2:Value) (lo:Nat) (w:World) (h1:OCells w lo v1 c.cells) (h2:OInts w lo v2 c.words) (hi:i<c.cells.length) :
    Calls Tryz.prog 110 #[.agg (cvals c v1 v2),.int .i64 i,.int .i64 f,.int .i64 t,.int .i64 v] w fun r w'=>r=.returned (.bool (turnCB c i f t v))∧OCells w' lo v1 (turnC c i f t v).cells∧OInts w' lo v2 c.words∧w.grownBy w' v1.ownBlock:=by
  have O2:=Lib.hid h2
  have hne:=h1.ne h2
  obtain ⟨b,q,rfl,_⟩:=h2.seg
  obtain ⟨g,cap,rfl,hlo,hlt,hcell,hfr⟩:=h1.open1 hi
  have O1:=Lib.hid h1
  have c0:=hcell 0 (by omega)
  have c1:=hcell 1 (by omega)
  have c2:=hcell 2 (by omega)
  simp only [C3.val,Nat.add_zero] at c0 c1 c2
  have hi0:(0:Int)≤(i:Int):=by omega
  have hi1:(i:Int)<(c.cells.length:Int):=by omega
  have hgw:w.heap.size≠g:=by omega
  have hgw2:w.heap.size+1≠g:=by omega
  have hgw3:g≠w.heap.size:=by omega
  have hgw4:g≠w.heap.size+1:=by omega
  rw [turnC_cells,turnCB_at]
  unfold turnXB turnX
  generalize hcg:c.cells.getD i ⟨0,0,0⟩=x at c0 c1 c2
  clear h1 h2 hcell hcg
  unfold cvals
  go_enter Tryz.func110,Tryz.ntmps110
  go_wp2_with fail;refine bHit w (by exact zB) fun bb=>?_;refine (turned_any _ _ _ f t v _).mono ?_;rintro _ w1 ⟨hr,hbw1⟩;have hCw1:Below w.heap.size w w1:=bT bb hbw1;have hsw1:=hbw1.size;(try simp at hsw1);have zz:=And.intro (fun o=>hbw1.cell (p:=⟨w.heap.size,o,none⟩) (by (try simp) <;> omega)) <| fun o=>hbw1.frozen (p:=⟨w.heap.size,o,none⟩) (by (try simp) <;> omega);(try simp [go_sem] at zz);(try clear x_w f_w);obtain ⟨x_w,f_w⟩:=zz;(try clear l_w);have l_w:w.heap.size<w1.heap.size:=(by omega);have hKw1:Below w.heap.size w w1:=hCw1;clear hbw1 bb
  unfold TurnR at hr
  subst hr
  have o1:=O1.out
  have o2:=O2.out
  have p1:=own_below o1 hCw1
  have p2:=own_below o2 hCw1
  have d1:=fun o=>(hCw1.cell (p:=⟨g,o,none⟩) hlt)
  have d2:=fun o=>(hCw1.frozen (p:=⟨g,o,none⟩) hlt)
  have hgw5:g<w1.heap.size:=by omega
  have hgw6:w1.heap.size≠g:=by omega
  have hgw7:g≠w1.heap.size:=by omega
  have P1:=OCells.set p1 hi (turnX x f t v)
  simp only [turnX] at P1
  go_wp2
  go_ret
  refine ⟨rfl,?_,?_,?_⟩
  · exact zO P1 o1
  · (repeat first|with_reducible exact p2|with_reducible refine oAl ?_ _|with_reducible refine oDr ?_|((with_reducible first|refine own_store ?_ ?_ _|refine own_box ?_ ?_);rotate_left;focus first|(refine own_ne o2 ?_;(try dsimp only);omega)|(refine own_ne' o2 ?_;(try dsimp only);omega)|exact fun h=>OCells.ne o1 o2 _ rfl h))
  · have hg1:Gr g w w1:=gOfB hCw1
    show Gr g w _
    (repeat (first|with_reducible assumption|with_reducible exact gR _ _|with_reducible refine gA ?_|with_reducible refine gD ?_|with_reducible refine gS ?_ (.inl rfl)|((with_reducible refine gBx ?_ (.inr ?_));rotate_left;(focus ((try dsimp only);(try simp);(try omega))))|((with_reducible refine gS ?_ (.inr ?_));rotate_left;(focus ((try dsimp only);(try simp);(try omega))))))
attribute [local simp] bx_size
attribute [local go_sem ↓] zeroHand zeroChan toLHand toLChan toVHand toVChan storeHand storeChan storeHandC storeChanC
set_option maxRecDepth 100000 in
set_option maxHeartbeats 1000000 in
theorem saw_any (h:Ha) (s e t:Int) (w:World):Calls Tryz.prog 100 #[.agg (hvals h),.agg #[.int .i64 s,.int .i64 e,.int .i64 t]] w fun r w'=>r=.returned (.agg (hvals { h with seen:=s,wait:=t }))∧Below w.heap.size w w':=by
  go_enter Tryz.func100,Tryz.ntmps100
  go_wp2_with fail
  go_region
  all_goals go_wp2
  all_goals exact bodyPost_ret (res_c Tryz.results100 rfl (ldHand { h with seen:=s,wait:=t } (by simp [go_sem, *] <;> rfl))) rfl ⟨rfl,by exact zB⟩
end Go.Proofs.YthfbnjfppjmgfaaGreat
set_option linter.unusedSimpArgs false
set_option linter.unusedVariables false
namespace Go.Proofs.YthfbnjfppjmgfaaGreat
open Go.RowKit
set_option linter.unusedSimpArgs false
attribute [local simp] bx_size
attribute [local go_sem ↓] zeroHand zeroChan toLHand toLChan toVHand toVChan storeHand storeChan storeHandC storeChanC
theorem growing_any (h:Ha) (t:Int) (w:World):Calls Tryz.prog 89 #[.agg (hvals h),.int .i64 t] w fun r w'=>r=.returned (.agg (hvals (grow7 h t)))∧Below w.heap.size w w':=by
  go_enter Tryz.func89,Tryz.ntmps89
  go_wp2_with fail;refine bHit w (by exact zB) fun bb=>?_;refine (moved_any { h with nxt:=t } 16 _).mono ?_;rintro _ w1 ⟨rfl,hbw1⟩;have hCw1:Below w.heap.size w w1:=bT bb hbw1;have hsw1:=hbw1.size;(try simp at hsw1);have zz:=And.intro (hQ hbw1 (b:=w.heap.size+1)) <| hQ hbw1 (b:=w.heap.size);(try simp [go_sem] at zz);(try clear z_wp x_wp f_wp l_wp);(try clear z_w x_w f_w l_w);obtain ⟨z_wp,z_w⟩:=zz;obtain ⟨x_wp,f_wp,l_wp⟩:=bO z_wp;obtain ⟨x_w,f_w,l_w⟩:=bO z_w;clear hbw1 bb
  go_wp2
  refine bodyPost_ret (res_c Tryz.results89 rfl (ldHand (grow7 h t) (by simp [go_sem, *] <;> rfl))) rfl ⟨rfl,by exact zB⟩
set_option maxRecDepth 100000 in
set_option maxHeartbeats 2000000 in
theorem recvNumber_a (c:Ch) (h:Ha) (v1 v2:Value) (lo:Nat) (w:World) (h1:OCells w lo v1 c.cells) (h2:OInts w lo v2 c.words) (hs:c.got=40) :
    Calls Tryz.prog 84 #[.agg (cvals c v1 v2),.agg (hvals h)] w fun r w'=>StepO w w' lo v1 v2 ((c,resting 4 0,true)) r:=by
  have b1:=fun j (hj:v1.ownBlock=some j)=>(h1.lt j hj).2
  have b2:=fun j (hj:v2.ownBlock=some j)=>(h2.lt j hj).2
  obtain ⟨a1,q1,rfl,_⟩:=h1.seg
  obtain ⟨a2,q2,rfl,_⟩:=h2.seg
  have O1:=Lib.hid h1
  have O2:=Lib.hid h2
  clear h1 h2
  have o1:=O1.out
  have o2:=O2.out
  go_enter Tryz.func84,Tryz.ntmps84
  go_wp2_with fail
  go_region_held3 (fun w'=>hp w' w.heap.size=some (.cells (cvals c (.slice a1 c.cells.length q1) (.slice a2 c.words.length q2)) 34)∧hp w' (w.heap.size+1)=some (.cells (hvals h) 38))
    (first|(simp [*,go_sem]))
    (first|((go_at_call 99;refine bHit w (by exact zB) fun bb=>?_;refine (resting_any _ _ _).mono ?_;rintro _ w1 ⟨rfl,hbw1⟩;have hCw1:Below w.heap.size w w1:=bT bb hbw1;have hsw1:=hbw1.size;(try simp at hsw1);have zz:=q4 hbw1 (b:=w.heap.size);(try simp [go_sem] at zz);(try clear z_wppp x_wppp f_wppp l_wppp);(try clear z_wpp x_wpp f_wpp l_wpp);(try clear z_wp x_wp f_wp l_wp);(try clear z_w x_w f_w l_w);obtain ⟨z_wppp,z_wpp,z_wp,z_w⟩:=zz;obtain ⟨x_wppp,f_wppp,l_wppp⟩:=bO z_wppp;obtain ⟨x_wpp,f_wpp,l_wpp⟩:=bO z_wpp;obtain ⟨x_wp,f_wp,l_wp⟩:=bO z_wp;obtain ⟨x_w,f_w,l_w⟩:=bO z_w;have hKw1:Below w.heap.size w w1:=hCw1;clear hbw1 bb);have p1:=own_below o1 hKw1;have p2:=own_below o2 hKw1))
  go_wp2
  refine bodyPost_ret (res_cct Tryz.results84 rfl (ldChan c (.slice a1 c.cells.length q1) (.slice a2 c.words.length q2) (by simp [go_sem, *] <;> rfl)) rfl (ldHand (resting 4 0) (by simp [go_sem, *] <;> rfl))) rfl ⟨⟨_,_,rfl,?_,?_,fresh_refl _ _,fresh_refl _ _⟩,onlB (by exact zB)⟩
  · exact zO p1 o1
  · exact zO p2 o2
set_option maxRecDepth 100000 in
set_option maxHeartbeats 2000000 in
theorem recvNumber_b (c:Ch) (h:Ha) (v1 v2:Value) (lo:Nat) (w:World) (h1:OCells w lo v1 c.cells) (h2:OInts w lo v2 c.words) (hs:¬ c.got=40) (hsr:0≤c.got∧c.got≤40) :
    Calls Tryz.prog 84 #[.agg (cvals c v1 v2),.agg (hvals h)] w fun r w'=>StepO w w' lo v1 v2 (({ c with got:=c.got+1 },{ h with cell:=c.got,pos:=10 },true)) r:=by
  have b1:=fun j (hj:v1.ownBlock=some j)=>(h1.lt j hj).2
  have b2:=fun j (hj:v2.ownBlock=some j)=>(h2.lt j hj).2
  obtain ⟨a1,q1,rfl,_⟩:=h1.seg
  obtain ⟨a2,q2,rfl,_⟩:=h2.seg
  have O1:=Lib.hid h1
  have O2:=Lib.hid h2
  clear h1 h2
  have o1:=O1.out
  have o2:=O2.out
  go_enter Tryz.func84,Tryz.ntmps84
  go_wp2_with fail
  go_region_held3 (fun w'=>hp w' w.heap.size=some (.cells (cvals { c with got:=c.got+1 } (.slice a1 c.cells.length q1) (.slice a2 c.words.length q2)) 34)∧hp w' (w.heap.size+1)=some (.cells (hvals { h with cell:=c.got }) 38))
    (first|(simp [*,go_sem]))
    (first|((go_at_call 86;refine bHit w (by exact zB) fun bb=>?_;refine (moved_any _ _ _).mono ?_;rintro _ w1 ⟨rfl,hbw1⟩;have hCw1:Below w.heap.size w w1:=bT bb hbw1;have hsw1:=hbw1.size;(try simp at hsw1);have zz:=q4 hbw1 (b:=w.heap.size);(try simp [go_sem] at zz);(try clear z_wppp x_wppp f_wppp l_wppp);(try clear z_wpp x_wpp f_wpp l_wpp);(try clear z_wp x_wp f_wp l_wp);(try clear z_w x_w f_w l_w);obtain ⟨z_wppp,z_wpp,z_wp,z_w⟩:=zz;obtain ⟨x_wppp,f_wppp,l_wppp⟩:=bO z_wppp;obtain ⟨x_wpp,f_wpp,l_wpp⟩:=bO z_wpp;obtain ⟨x_wp,f_wp,l_wp⟩:=bO z_wp;obtain ⟨x_w,f_w,l_w⟩:=bO z_w;have hKw1:Below w.heap.size w w1:=hCw1;clear hbw1 bb);have p1:=own_below o1 hKw1;have p2:=own_below o2 hKw1))
  go_wp2
  refine bodyPost_ret (res_cct Tryz.results84 rfl (ldChan { c with got:=c.got+1 } (.slice a1 c.cells.length q1) (.slice a2 c.words.length q2) (by simp [go_sem, *] <;> rfl)) rfl (ldHand { h with cell:=c.got,pos:=10 } (by simp [go_sem, *] <;> rfl))) rfl ⟨⟨_,_,rfl,?_,?_,fresh_refl _ _,fresh_refl _ _⟩,onlB (by exact zB)⟩
  · exact zO p1 o1
  · exact zO p2 o2
set_option maxRecDepth 100000 in
set_option maxHeartbeats 2000000 in
theorem recvTurn_yes (c:Ch) (st wt:Int) (y z:Ha) (v1 v2:Value) (lo:Nat) (w:World) (h1:OCells w lo v1 c.cells) (h2:OInts w lo v2 c.words) (hc0:0≤y.cell) (hc1:y.cell<c.cells.length) (ht:turnCB c y.cell y.seen st wt=true) :
    Calls Tryz.prog 102 #[.agg (cvals c v1 v2),.int .i64 st,.int .i64 wt,.agg (hvals y),.agg (hvals z)] w fun r w'=>StepO w w' lo v1 v2 (turnC c y.cell y.seen st wt,y,true) r:=by
  obtain ⟨i,hci⟩:∃ i:Nat,y.cell=(i:Int):=⟨y.cell.toNat,by omega⟩
  have hi:i<c.cells.length:=by omega
  have T:=Lib.hid fun W a b=>turnedIn_any c i y.seen st wt v1 v2 lo W a b hi
  have ht2:=ht
  rw [hci] at ht2
  rw [ht2] at T
  have e0:turnC c y.cell y.seen st wt=turnC c i y.seen st wt:=by rw [hci]
  rw [e0]
  have b1:=fun j (hj:v1.ownBlock=some j)=>(h1.lt j hj).2
  have b2:=fun j (hj:v2.ownBlock=some j)=>(h2.lt j hj).2
  have m1:∀ j,w.heap.size≤j→some j≠v1.ownBlock:=fun j hj e=>by have:=b1 _ e.symm;omega
  have m2:∀ j,w.heap.size≤j→some j≠v2.ownBlock:=fun j hj e=>by have:=b2 _ e.symm;omega
  have m10:=m1 (w.heap.size) (by omega)
  have m20:=m2 (w.heap.size) (by omega)
  have m11:=m1 (w.heap.size+1) (by omega)
  have m21:=m2 (w.heap.size+1) (by omega)
  have m12:=m1 (w.heap.size+1+1) (by omega)
  have m22:=m2 (w.heap.size+1+1) (by omega)
  have m13:=m1 (w.heap.size+1+1+1) (by omega)
  have m23:=m2 (w.heap.size+1+1+1) (by omega)
  have m14:=m1 (w.heap.size+1+1+1+1) (by omega)
  have m24:=m2 (w.heap.size+1+1+1+1) (by omega)
  have o1:=h1
  have o2:=h2
  obtain ⟨a1,q1,e1,_⟩:=h1.seg
  obtain ⟨a2,q2,e2,_⟩:=h2.seg
  subst e1 e2
  clear h1 h2 ht ht2 e0 hc0 hc1
  go_enter Tryz.func102,Tryz.ntmps102
  go_wp2_with fail;refine (T.out _ (by exact zO o1 o1) (by exact zO o2 o2)).mono ?_;rintro _ w1 ⟨rfl,p1,p2,hgw1⟩;have hsw1:=hgw1.size;(try (simp at hsw1));have zz:=And.intro (grHp hgw1 (b:=w.heap.size+1+1+1+1) (by (try simp) <;> omega) (by assumption)) <| And.intro (grHp hgw1 (b:=w.heap.size+1+1+1) (by (try simp) <;> omega) (by assumption)) <| And.intro (grHp hgw1 (b:=w.heap.size+1+1) (by (try simp) <;> omega) (by assumption)) <| And.intro (grHp hgw1 (b:=w.heap.size+1) (by (try simp) <;> omega) (by assumption)) <| grHp hgw1 (b:=w.heap.size) (by (try simp) <;> omega) (by assumption);(try simp [go_sem] at zz);(try clear z_wpppp x_wpppp f_wpppp l_wpppp);(try clear z_wppp x_wppp f_wppp l_wppp);(try clear z_wpp x_wpp f_wpp l_wpp);(try clear z_wp x_wp f_wp l_wp);(try clear z_w x_w f_w l_w);obtain ⟨z_wpppp,z_wppp,z_wpp,z_wp,z_w⟩:=zz;obtain ⟨x_wpppp,f_wpppp,l_wpppp⟩:=bO z_wpppp;obtain ⟨x_wppp,f_wppp,l_wppp⟩:=bO z_wppp;obtain ⟨x_wpp,f_wpp,l_wpp⟩:=bO z_wpp;obtain ⟨x_wp,f_wp,l_wp⟩:=bO z_wp;obtain ⟨x_w,f_w,l_w⟩:=bO z_w;have hGw1:=grB (w:=w) (by exact zB) hgw1;clear hgw1
  have hO1:Onl (Value.slice a1 c.cells.length q1).ownBlock (Value.slice a2 c.words.length q2).ownBlock w w1:=onl1 hGw1
  have k0:w.heap.size<w1.heap.size:=by omega
  have k1:w.heap.size+1<w1.heap.size:=by omega
  have k2:w.heap.size+1+1<w1.heap.size:=by omega
  have k3:w.heap.size+1+1+1<w1.heap.size:=by omega
  have k4:w.heap.size+1+1+1+1<w1.heap.size:=by omega
  have r1:OCells w1 lo (.slice a1 c.cells.length q1) (turnC c i y.seen st wt).cells:=p1
  have r2:OInts w1 lo (.slice a2 c.words.length q2) (turnC c i y.seen st wt).words:=p2
  clear p1 p2
  go_wp2_with fail
  go_region
  go_wp2
  refine bodyPost_ret (res_cct Tryz.results102 rfl (ldChan c (.slice a1 c.cells.length q1) (.slice a2 c.words.length q2) (by simp [go_sem, *] <;> rfl)) rfl (ldHand y (by simp [go_sem, *] <;> rfl))) rfl ⟨⟨_,_,rfl,?_,?_,fresh_refl _ _,fresh_refl _ _⟩,by (repeat (first|with_reducible assumption|with_reducible refine oA ?_|with_reducible refine oD ?_|((with_reducible refine oX ?_ ?_);rotate_left;(focus ((try dsimp only);(try simp);(try omega))))|((with_reducible refine oS ?_ ?_);rotate_left;(focus ((try dsimp only);(try simp);(try omega))))))⟩
  · exact zO r1 o1
  · exact zO r2 o2
set_option maxRecDepth 100000 in
set_option maxHeartbeats 2000000 in
theorem recvTurn_no0 (c:Ch) (st wt:Int) (y z:Ha) (v1 v2:Value) (lo:Nat) (w:World) (h1:OCells w lo v1 c.cells) (h2:OInts w lo v2 c.words) (hc0:0≤y.cell) (hc1:y.cell<c.cells.length) (ht:turnCB c y.cell y.seen st wt=false) :
    Calls Tryz.prog 102 #[.agg (cvals c v1 v2),.int .i64 st,.int .i64 wt,.agg (hvals y),.agg (hvals z)] w fun r w'=>StepO w w' lo v1 v2 (turnC c y.cell y.seen st wt,z,true) r:=by
  obtain ⟨i,hci⟩:∃ i:Nat,y.cell=(i:Int):=⟨y.cell.toNat,by omega⟩
  have hi:i<c.cells.length:=by omega
  have T:=Lib.hid fun W a b=>turnedIn_any c i y.seen st wt v1 v2 lo W a b hi
  have ht2:=ht
  rw [hci] at ht2
  rw [ht2] at T
  have e0:turnC c y.cell y.seen st wt=turnC c i y.seen st wt:=by rw [hci]
  rw [e0]
  have b1:=fun j (hj:v1.ownBlock=some j)=>(h1.lt j hj).2
  have b2:=fun j (hj:v2.ownBlock=some j)=>(h2.lt j hj).2
  have m1:∀ j,w.heap.size≤j→some j≠v1.ownBlock:=fun j hj e=>by have:=b1 _ e.symm;omega
  have m2:∀ j,w.heap.size≤j→some j≠v2.ownBlock:=fun j hj e=>by have:=b2 _ e.symm;omega
  have m10:=m1 (w.heap.size) (by omega)
  have m20:=m2 (w.heap.size) (by omega)
  have m11:=m1 (w.heap.size+1) (by omega)
  have m21:=m2 (w.heap.size+1) (by omega)
  have m12:=m1 (w.heap.size+1+1) (by omega)
  have m22:=m2 (w.heap.size+1+1) (by omega)
  have m13:=m1 (w.heap.size+1+1+1) (by omega)
  have m23:=m2 (w.heap.size+1+1+1) (by omega)
  have m14:=m1 (w.heap.size+1+1+1+1) (by omega)
  have m24:=m2 (w.heap.size+1+1+1+1) (by omega)
  have o1:=h1
  have o2:=h2
  obtain ⟨a1,q1,e1,_⟩:=h1.seg
  obtain ⟨a2,q2,e2,_⟩:=h2.seg
  subst e1 e2
  clear h1 h2 ht ht2 e0 hc0 hc1
  go_enter Tryz.func102,Tryz.ntmps102
  go_wp2_with fail;refine (T.out _ (by exact zO o1 o1) (by exact zO o2 o2)).mono ?_;rintro _ w1 ⟨rfl,p1,p2,hgw1⟩;have hsw1:=hgw1.size;(try (simp at hsw1));have zz:=And.intro (grHp hgw1 (b:=w.heap.size+1+1+1+1) (by (try simp) <;> omega) (by assumption)) <| And.intro (grHp hgw1 (b:=w.heap.size+1+1+1) (by (try simp) <;> omega) (by assumption)) <| And.intro (grHp hgw1 (b:=w.heap.size+1+1) (by (try simp) <;> omega) (by assumption)) <| And.intro (grHp hgw1 (b:=w.heap.size+1) (by (try simp) <;> omega) (by assumption)) <| grHp hgw1 (b:=w.heap.size) (by (try simp) <;> omega) (by assumption);(try simp [go_sem] at zz);(try clear z_wpppp x_wpppp f_wpppp l_wpppp);(try clear z_wppp x_wppp f_wppp l_wppp);(try clear z_wpp x_wpp f_wpp l_wpp);(try clear z_wp x_wp f_wp l_wp);(try clear z_w x_w f_w l_w);obtain ⟨z_wpppp,z_wppp,z_wpp,z_wp,z_w⟩:=zz;obtain ⟨x_wpppp,f_wpppp,l_wpppp⟩:=bO z_wpppp;obtain ⟨x_wppp,f_wppp,l_wppp⟩:=bO z_wppp;obtain ⟨x_wpp,f_wpp,l_wpp⟩:=bO z_wpp;obtain ⟨x_wp,f_wp,l_wp⟩:=bO z_wp;obtain ⟨x_w,f_w,l_w⟩:=bO z_w;have hGw1:=grB (w:=w) (by exact zB) hgw1;clear hgw1
  have hO1:Onl (Value.slice a1 c.cells.length q1).ownBlock (Value.slice a2 c.words.length q2).ownBlock w w1:=onl1 hGw1
  have k0:w.heap.size<w1.heap.size:=by omega
  have k1:w.heap.size+1<w1.heap.size:=by omega
  have k2:w.heap.size+1+1<w1.heap.size:=by omega
  have k3:w.heap.size+1+1+1<w1.heap.size:=by omega
  have k4:w.heap.size+1+1+1+1<w1.heap.size:=by omega
  have r1:OCells w1 lo (.slice a1 c.cells.length q1) (turnC c i y.seen st wt).cells:=p1
  have r2:OInts w1 lo (.slice a2 c.words.length q2) (turnC c i y.seen st wt).words:=p2
  clear p1 p2
  go_wp2_with fail
  go_region
  go_wp2
  refine bodyPost_ret (res_cct Tryz.results102 rfl (ldChan c (.slice a1 c.cells.length q1) (.slice a2 c.words.length q2) (by simp [go_sem, *] <;> rfl)) rfl (ldHand z (by simp [go_sem, *] <;> rfl))) rfl ⟨⟨_,_,rfl,?_,?_,fresh_refl _ _,fresh_refl _ _⟩,by (repeat (first|with_reducible assumption|with_reducible refine oA ?_|with_reducible refine oD ?_|((with_reducible refine oX ?_ ?_);rotate_left;(focus ((try dsimp only);(try simp);(try omega))))|((with_reducible refine oS ?_ ?_);rotate_left;(focus ((try dsimp only);(try simp);(try omega))))))⟩
  · exact zO r1 o1
  · exact zO r2 o2
theorem turnC_same7 {c:Ch} {i f t v:Int} (h:turnCB c i f t v=false):turnC c i f t v=c:=by
  have e:turnX (cellAt c i) f t v=cellAt c i:=by
    have h2:turnB (cellAt c i).s (cellAt c i).e (cellAt c i).t f t v=false:=h
    simp [turnX,turnS,turnW,h2]
  unfold turnC setAt
  rw [e]
  unfold cellAt
  have:c.cells.set i.toNat (c.cells.getD i.toNat ⟨0,0,0⟩)=c.cells:=by
    apply List.ext_getElem?
    intro n
    rw [List.getElem?_set]
    by_cases hn:i.toNat=n
    · subst hn
      by_cases hl:i.toNat<c.cells.length
      · simp [hl]
      · simp [hl,Nat.le_of_not_lt hl]
    · simp [hn]
  rw [this]
theorem recvTurn_any (c:Ch) (st wt:Int) (y z:Ha) (v1 v2:Value) (lo:Nat) (w:World) (h1:OCells w lo v1 c.cells) (h2:OInts w lo v2 c.words) (hc0:0≤y.cell) (hc1:y.cell<c.cells.length) :
    Calls Tryz.prog 102 #[.agg (cvals c v1 v2),.int .i64 st,.int .i64 wt,.agg (hvals y),.agg (hvals z)] w fun r w'=>StepO w w' lo v1 v2 (tnS c st wt y z) r:=by
  cases ht:turnCB c y.cell y.seen st wt with
  | true =>
    rw [show tnS c st wt y z=(turnC c y.cell y.seen st wt,y,true) by simp [tnS,ht]]
    exact recvTurn_yes c st wt y z v1 v2 lo w h1 h2 hc0 hc1 ht
  | false =>
    have:=recvTurn_no0 c st wt y z v1 v2 lo w h1 h2 hc0 hc1 ht
    rw [turnC_same7 ht] at this
    rw [show tnS c st wt y z=(c,z,true) by simp [tnS,ht]]
    exact this
end Go.Proofs.YthfbnjfppjmgfaaGreat
