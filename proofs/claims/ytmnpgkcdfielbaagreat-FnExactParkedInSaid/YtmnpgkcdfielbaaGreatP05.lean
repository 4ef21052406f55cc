/-
  The reference model's putting into a cell, all cases; the lists are the call's own and hold at most 2 ^ 40 elements.
  The reference model's calling of a receiver, on hands and channels that are kept whole; lists hold at most 2 ^ 40 elements.
  The reference model's steps of sending, on hands and channels that are kept whole; lists lie in memory and hold at most 2 ^ 40 elements.
  A drawn region by an invariant: what has come up is a function to Bool, what lies in the slots a function to values; each operation is carried out once, whatever came up before it; no condition.
  Boxes of a call's own, by what points at them; no condition.
  What the document's steps of chapters 7 to 10 compute, as plain functions on numbers and lists; no condition.
-/
import Derived.Test.YtmnpgkcdfielbaaGreatP04
import Derived.Test.YtmnpgkcdfielbaaGreatP03
import Derived.Test.YtmnpgkcdfielbaaGreatP01
import Derived.Deep.RegionHeld3
import Derived.Test.YtmnpgkcdfielbaaGreatP02
set_option linter.unusedSimpArgs false
set_option linter.unusedVariables false
namespace Go.Proofs.YtmnpgkcdfielbaaGreat
open Go.RowKit
theorem l6Put_any (c:Ch) (h:Ha) (v1 v2:Value) (lo:Nat) (w:World) (h1:OCells w lo v1 c.cells) (h2:OInts w lo v2 c.words) (hlo:lo≤w.heap.size) (hc0:0≤h.cell) (hc1:h.cell<c.cells.length) :
    Calls Tryz.prog 87 #[.agg (cvals c v1 v2),.agg (hvals h)] w fun r w'=>StepO w w' lo v1 v2 (put6 c h) r:=by
  by_cases hs:(h.seen != 0 && h.seen != 1)=true
  · exact l6Put_none c h v1 v2 lo w h1 h2 hs
  · have hs2:h.seen=0∨h.seen=1:=by simp at hs;omega
    rcases hs2 with h0|h0
    · by_cases hx:h.come≤h.cell
      · by_cases hy:h.fin≤h.cell
        · exact l6Put_wait c h v1 v2 lo w h1 h2 hlo hc0 hc1 h0 hx hy
        · cases ht:turnCB c h.cell h.seen 2 0 with
          | true=>exact l6Put_turn3 c h v1 v2 lo w h1 h2 hc0 hc1 h0 hx (by omega) ht
          | false=>exact l6Put_late3 c h v1 v2 lo w h1 h2 hc0 hc1 h0 hx (by omega) ht
      · cases ht:turnCB c h.cell h.seen 2 0 with
        | true=>exact l6Put_turn2 c h v1 v2 lo w h1 h2 hc0 hc1 h0 (by omega) ht
        | false=>exact l6Put_late2 c h v1 v2 lo w h1 h2 hc0 hc1 h0 (by omega) ht
    · cases ht:turnCB c h.cell h.seen 2 0 with
      | true=>exact l6Put_turn1 c h v1 v2 lo w h1 h2 hc0 hc1 h0 ht
      | false=>exact l6Put_late1 c h v1 v2 lo w h1 h2 hc0 hc1 h0 ht
end Go.Proofs.YtmnpgkcdfielbaaGreat
set_option linter.unusedSimpArgs false
set_option linter.unusedVariables false
namespace Go.Proofs.YtmnpgkcdfielbaaGreat
open Go.RowKit
set_option linter.unusedSimpArgs false
attribute [local simp] bx_size
attribute [local go_sem ↓] zeroHand zeroChan toLHand toLChan toVHand toVChan storeHand storeChan storeHandC storeChanC
set_option maxRecDepth 100000 in
set_option maxHeartbeats 2000000 in
theorem l6Call_any (c:Ch) (h:Ha) (a b:Option Addr) (p q:Nat) (w:World) (h1:Seg w w.heap.size a c.cells.length 3 (cellF c.cells)) (z1:a=none→p=0) (h2:Seg w w.heap.size b c.words.length 1 (intF c.words)) (z2:b=none→q=0) (m1:c.cells.length≤1099511627776) (m2:c.words.length≤1099511627776) :
    Calls Tryz.prog 88 #[.agg (cvals c (.slice a c.cells.length p) (.slice b c.words.length q)),.agg (hvals h)] w fun r w'=>(∃ v1 v2,r=.returned (.tuple #[.agg (cvals c v1 v2),.agg (hvals (call6 c h).2)])∧OCells w' w.heap.size v1 c.cells∧OInts w' w.heap.size v2 (tellC c h.wait 1).words)∧Below w.heap.size w w':=by
  have H1:=Lib.hid h1
  have H2:=Lib.hid h2
  have Z1:=Lib.hid z1
  have Z2:=Lib.hid z2
  clear h1 h2 z1 z2
  cases ht:tellB c h.wait 1 with
  | true =>
    have e:(call6 c h).2={ h with pos:=8 }:=by simp [call6,ht]
    rw [e]
    go_enter Tryz.func88,Tryz.ntmps88
    go_wp2_with fail;refine bHit w (by exact zB) fun bb=>?_;refine (wTold_any c h.wait 1 a b p q _ ((H1.out.below bb).more bb.size) Z1.out ((H2.out.below bb).more bb.size) Z2.out m1 m2).mono ?_;rintro _ w1 ⟨⟨v1,v2,rfl,o1,o2⟩,hbw1⟩;have hCw1:Below w.heap.size w w1:=bT bb hbw1;have hsw1:=hbw1.size;(try simp at hsw1);have zz:=q4 hbw1 (b:=w.heap.size);(try simp [go_sem] at zz);(try clear z_wppp x_wppp f_wppp l_wppp);(try clear z_wpp x_wpp f_wpp l_wpp);(try clear z_wp x_wp f_wp l_wp);(try clear z_w x_w f_w l_w);obtain ⟨z_wppp,z_wpp,z_wp,z_w⟩:=zz;obtain ⟨x_wppp,f_wppp,l_wppp⟩:=bO z_wppp;obtain ⟨x_wpp,f_wpp,l_wpp⟩:=bO z_wpp;obtain ⟨x_wp,f_wp,l_wp⟩:=bO z_wp;obtain ⟨x_w,f_w,l_w⟩:=bO z_w;clear hbw1 bb
    rw [ht]
    try simp at o1 o2
    obtain ⟨a1,q1,rfl,_⟩:=o1.seg
    obtain ⟨a2,q2,rfl,_⟩:=o2.seg
    go_wp2
    go_region
    go_wp2
    all_goals (refine bodyPost_ret (res_cc Tryz.results88 rfl (ldChan c (.slice a1 c.cells.length q1) (.slice a2 (tellC c h.wait 1).words.length q2) (by simp [go_sem, *])) rfl (ldHand { h with pos:=8 } (by simp [go_sem, *] <;> rfl))) rfl ⟨⟨_,_,rfl,own_lo (lo:=w.heap.size+1+1+1+1) ?_ (by omega),own_lo (lo:=w.heap.size+1+1+1+1) ?_ (by omega)⟩,by exact zB⟩)
    · exact zO o1 o1
    · exact zO o2 o2
  | false =>
    have e:(call6 c h).2=anew h:=by simp [call6,ht]
    rw [e]
    go_enter Tryz.func88,Tryz.ntmps88
    go_wp2_with fail;refine bHit w (by exact zB) fun bb=>?_;refine (wTold_any c h.wait 1 a b p q _ ((H1.out.below bb).more bb.size) Z1.out ((H2.out.below bb).more bb.size) Z2.out m1 m2).mono ?_;rintro _ w1 ⟨⟨v1,v2,rfl,o1,o2⟩,hbw1⟩;have hCw1:Below w.heap.size w w1:=bT bb hbw1;have hsw1:=hbw1.size;(try simp at hsw1);have zz:=q4 hbw1 (b:=w.heap.size);(try simp [go_sem] at zz);(try clear z_wppp x_wppp f_wppp l_wppp);(try clear z_wpp x_wpp f_wpp l_wpp);(try clear z_wp x_wp f_wp l_wp);(try clear z_w x_w f_w l_w);obtain ⟨z_wppp,z_wpp,z_wp,z_w⟩:=zz;obtain ⟨x_wppp,f_wppp,l_wppp⟩:=bO z_wppp;obtain ⟨x_wpp,f_wpp,l_wpp⟩:=bO z_wpp;obtain ⟨x_wp,f_wp,l_wp⟩:=bO z_wp;obtain ⟨x_w,f_w,l_w⟩:=bO z_w;clear hbw1 bb
    rw [ht]
    try simp at o1 o2
    obtain ⟨a1,q1,rfl,_⟩:=o1.seg
    obtain ⟨a2,q2,rfl,_⟩:=o2.seg
    go_wp2_with fail
    go_region_with (go_at_call 94;refine bHit w (by exact zB) fun bb=>?_;refine bHit w1 (by exact zB) fun bk=>?_;refine (l6Anew_any _ _).mono ?_;rintro _ w2 ⟨rfl,hbw2⟩;have hCw2:Below w.heap.size w w2:=bT bb hbw2;have hsw2:=hbw2.size;(try simp at hsw2);have zz:=And.intro (hQ hbw2 (b:=w1.heap.size)) <| And.intro (hQ hbw2 (b:=w.heap.size+1+1+1)) <| And.intro (hQ hbw2 (b:=w.heap.size+1+1)) <| And.intro (hQ hbw2 (b:=w.heap.size+1)) <| hQ hbw2 (b:=w.heap.size);(first|simp [go_sem,z_wppp,z_wpp,z_wp,z_w,l_w,l_wp,l_wpp,l_wppp] at zz|simp [go_sem] at zz|skip);(try clear z_w1 x_w1 f_w1 l_w1);(try clear z_wppp x_wppp f_wppp l_wppp);(try clear z_wpp x_wpp f_wpp l_wpp);(try clear z_wp x_wp f_wp l_wp);(try clear z_w x_w f_w l_w);obtain ⟨z_w1,z_wppp,z_wpp,z_wp,z_w⟩:=zz;obtain ⟨x_w1,f_w1,l_w1⟩:=bO z_w1;obtain ⟨x_wppp,f_wppp,l_wppp⟩:=bO z_wppp;obtain ⟨x_wpp,f_wpp,l_wpp⟩:=bO z_wpp;obtain ⟨x_wp,f_wp,l_wp⟩:=bO z_wp;obtain ⟨x_w,f_w,l_w⟩:=bO z_w;have hKw2:Below w1.heap.size w1 w2:=bT bk hbw2;clear hbw2 bb bk)
    all_goals (go_wp2_with fail)
    all_goals (have p1:=own_below o1 hKw2;have p2:=own_below o2 hKw2)
    all_goals (refine bodyPost_ret (res_cc Tryz.results88 rfl (ldChan c (.slice a1 c.cells.length q1) (.slice a2 (tellC c h.wait 1).words.length q2) (by simp [go_sem, *])) rfl (ldHand (anew h) (by simp [go_sem, *] <;> rfl))) rfl ⟨⟨_,_,rfl,own_lo (lo:=w.heap.size+1+1+1+1) ?_ (by omega),own_lo (lo:=w.heap.size+1+1+1+1) ?_ (by omega)⟩,by exact zB⟩)
    all_goals first|(repeat first|with_reducible exact p1|with_reducible refine oAl ?_ _|with_reducible refine oDr ?_|((with_reducible first|refine own_store ?_ ?_ _|refine own_box ?_ ?_);rotate_left;focus first|(refine own_ne o1 ?_;(try dsimp only);omega)|(refine own_ne' o1 ?_;(try dsimp only);omega)))|skip
    all_goals first|(repeat first|with_reducible exact p2|with_reducible refine oAl ?_ _|with_reducible refine oDr ?_|((with_reducible first|refine own_store ?_ ?_ _|refine own_box ?_ ?_);rotate_left;focus first|(refine own_ne o2 ?_;(try dsimp only);omega)|(refine own_ne' o2 ?_;(try dsimp only);omega)))|skip
end Go.Proofs.YtmnpgkcdfielbaaGreat
set_option linter.unusedSimpArgs false
set_option linter.unusedVariables false
namespace Go.Proofs.YtmnpgkcdfielbaaGreat
open Go.RowKit
set_option linter.unusedSimpArgs false
attribute [local simp] bx_size
attribute [local go_sem ↓] zeroHand zeroChan toLHand toLChan toVHand toVChan storeHand storeChan storeHandC storeChanC
theorem Fresh.off2 {w:World} {v v':Value} {lim b:Nat} (h:Fresh w v v') (hv:∀ j,v.ownBlock=some j→lim≤j) (h2:b<lim) (h3:lim≤w.heap.size):v'.ownBlock≠some b:=fun e=>by
  rcases h b e with h|h
  · have:=hv b h;omega
  · omega
theorem Fresh.up {w:World} {v v':Value} {lim n:Nat} (h:Fresh w v v') (hv:∀ j,v.ownBlock=some j→lim≤j) (h1:n≤lim) (h2:n≤w.heap.size) (j:Nat) (hj:v'.ownBlock=some j):n≤j:=by
  rcases h j hj with h|h
  · have:=hv j h;omega
  · omega
/-- What a step answers that takes a channel as it lies. -/
def StepN (w w':World) (x:St) (r:Ending):Prop:=StepR w w' w.heap.size (.slice none 0 0) (.slice none 0 0) x r∧Below w.heap.size w w'
theorem stepOk_yes {c:Ch} {h:Ha} {f t k:Int} (e:stepOk c h f t k=true):chanOk c=true∧handOk h=true∧f≤h.pos∧h.pos≤t:=by
  simp [stepOk,inB] at e
  exact ⟨e.1,e.2.1,e.2.2.1.1,e.2.2.1.2⟩
theorem chan_40 {c:Ch} (e:chanOk c=true):c.cells.length=40∧c.words.length≤80:=by
  simp [chanOk,chanHead] at e
  omega
theorem hand_cell {h:Ha} (e:handOk h=true):0≤h.cell∧h.cell≤39:=by
  simp [handOk,handB,inB] at e
  omega
set_option maxRecDepth 100000 in
set_option maxHeartbeats 2000000 in
theorem sSend_no (c:Ch) (h:Ha) (a b:Option Addr) (p q:Nat) (w:World) (h1:Seg w w.heap.size a c.cells.length 3 (cellF c.cells)) (h2:Seg w w.heap.size b c.words.length 1 (intF c.words)) (hk:stepOk c h 1 8 1=false) :
    Calls Tryz.prog 70 #[.agg (cvals c (.slice a c.cells.length p) (.slice b c.words.length q)),.agg (hvals h)] w fun r w'=>StepN w w' (sendStep c h) r:=by
  have e:sendStep c h=nothing:=by simp [sendStep,hk]
  rw [e]
  have H1:=Lib.hid h1
  have H2:=Lib.hid h2
  have T:=Lib.hid fun W=>l6None_any W w.heap.size (.slice none 0 0) (.slice none 0 0)
  generalize nothing=x at *
  clear h1 h2 e
  have d1:∀ j,(Value.slice none 0 0).ownBlock=some j→w.heap.size+1+1+1+1≤j:=fun j hj=>by cases hj
  have d2:=d1
  go_enter Tryz.func70,Tryz.ntmps70
  go_wp2_with fail;refine bHit w (by exact zB) fun bb=>?_;refine (l6Ok_any c h 1 8 1 a b p q _ ((H1.out.below bb).more bb.size) ((H2.out.below bb).more bb.size)).mono ?_;rintro _ w1 ⟨rfl,hbw1⟩;have hCw1:Below w.heap.size w w1:=bT bb hbw1;have hsw1:=hbw1.size;(try simp at hsw1);have zz:=q4 hbw1 (b:=w.heap.size);(try simp [go_sem] at zz);(try clear z_wppp x_wppp f_wppp l_wppp);(try clear z_wpp x_wpp f_wpp l_wpp);(try clear z_wp x_wp f_wp l_wp);(try clear z_w x_w f_w l_w);obtain ⟨z_wppp,z_wpp,z_wp,z_w⟩:=zz;obtain ⟨x_wppp,f_wppp,l_wppp⟩:=bO z_wppp;obtain ⟨x_wpp,f_wpp,l_wpp⟩:=bO z_wpp;obtain ⟨x_wp,f_wp,l_wp⟩:=bO z_wp;obtain ⟨x_w,f_w,l_w⟩:=bO z_w;clear hbw1 bb
  rw [hk]
  go_wp2_with fail;refine bHit w (by exact zB) fun bb=>?_;refine (T.out _).mono ?_;rintro _ w2 ⟨⟨y1,y2,rfl,oY1,oY2,fY1,fY2⟩,hbw2⟩;have hCw2:Below w.heap.size w w2:=bT bb hbw2;have hsw2:=hbw2.size;(try simp at hsw2);have zz:=q4 hbw2 (b:=w.heap.size);(first|simp [go_sem,z_wppp,z_wpp,z_wp,z_w,l_w,l_wp,l_wpp,l_wppp] at zz|simp [go_sem] at zz|skip);(try clear z_wppp x_wppp f_wppp l_wppp);(try clear z_wpp x_wpp f_wpp l_wpp);(try clear z_wp x_wp f_wp l_wp);(try clear z_w x_w f_w l_w);obtain ⟨z_wppp,z_wpp,z_wp,z_w⟩:=zz;obtain ⟨x_wppp,f_wppp,l_wppp⟩:=bO z_wppp;obtain ⟨x_wpp,f_wpp,l_wpp⟩:=bO z_wpp;obtain ⟨x_wp,f_wp,l_wp⟩:=bO z_wp;obtain ⟨x_w,f_w,l_w⟩:=bO z_w;clear hbw2 bb
  have hoff1:∀ j,w.heap.size≤j→j<w.heap.size+1+1+1+1→y1.ownBlock≠some j:=fun j _ h2=>fY1.off2 d1 h2 (by (try simp) <;> omega);have hoff2:∀ j,w.heap.size≤j→j<w.heap.size+1+1+1+1→y2.ownBlock≠some j:=fun j _ h2=>fY2.off2 d2 h2 (by (try simp) <;> omega);have fr1:Fresh w (.slice none 0 0) y1:=fun j hj=>.inr (fY1.up d1 (by (try simp) <;> omega) (by (try simp) <;> omega) j hj);have fr2:Fresh w (.slice none 0 0) y2:=fun j hj=>.inr (fY2.up d2 (by (try simp) <;> omega) (by (try simp) <;> omega) j hj);obtain ⟨ya,yp,rfl,_⟩:=oY1.seg;obtain ⟨yb,yq,rfl,_⟩:=oY2.seg
  go_wp2
  refine bodyPost_ret (res_cct Tryz.results70 rfl (ldChan x.1 (.slice ya x.1.cells.length yp) (.slice yb x.1.words.length yq) (by simp [go_sem, *])) rfl (ldHand x.2.1 (by simp [go_sem, *]))) rfl ⟨⟨_,_,rfl,?_,?_,fr1,fr2⟩,by exact zB⟩
  · exact zP oY1 oY1 hoff1
  · exact zP oY2 oY2 hoff2
set_option maxRecDepth 100000 in
set_option maxHeartbeats 2000000 in
theorem sSend_4 (c:Ch) (h:Ha) (a b:Option Addr) (p q:Nat) (w:World) (h1:Seg w w.heap.size a c.cells.length 3 (cellF c.cells)) (z1:a=none→p=0) (h2:Seg w w.heap.size b c.words.length 1 (intF c.words)) (z2:b=none→q=0) (hk:stepOk c h 1 8 1=true) (hp0:h.pos=4) :
    Calls Tryz.prog 70 #[.agg (cvals c (.slice a c.cells.length p) (.slice b c.words.length q)),.agg (hvals h)] w fun r w'=>StepN w w' (sendStep c h) r:=by
  have e:sendStep c h=done c { h with fin:=c.fin,pos:=5 }:=by simp [sendStep,hk,hp0]
  rw [e]
  obtain ⟨k1,k2,_,_⟩:=stepOk_yes hk
  obtain ⟨n1,n2⟩:=chan_40 k1
  have m1:c.cells.length≤1099511627776:=by omega
  have m2:c.words.length≤1099511627776:=by omega
  have H1:=Lib.hid h1
  have H2:=Lib.hid h2
  have Z1:=Lib.hid z1
  have Z2:=Lib.hid z2
  have D:=Lib.hid fun v1 v2 W=>l6Done_any c { h with fin:=c.fin,pos:=5 } v1 v2 w.heap.size W
  generalize done c { h with fin:=c.fin,pos:=5 }=x at *
  clear h1 h2 z1 z2 e k1 k2 n1 n2
  go_enter Tryz.func70,Tryz.ntmps70
  go_wp2_with fail;refine bHit w (by exact zB) fun bb=>?_;refine (l6Ok_any c h 1 8 1 a b p q _ ((H1.out.below bb).more bb.size) ((H2.out.below bb).more bb.size)).mono ?_;rintro _ w1 ⟨rfl,hbw1⟩;have hCw1:Below w.heap.size w w1:=bT bb hbw1;have hsw1:=hbw1.size;(try simp at hsw1);have zz:=q4 hbw1 (b:=w.heap.size);(try simp [go_sem] at zz);(try clear z_wppp x_wppp f_wppp l_wppp);(try clear z_wpp x_wpp f_wpp l_wpp);(try clear z_wp x_wp f_wp l_wp);(try clear z_w x_w f_w l_w);obtain ⟨z_wppp,z_wpp,z_wp,z_w⟩:=zz;obtain ⟨x_wppp,f_wppp,l_wppp⟩:=bO z_wppp;obtain ⟨x_wpp,f_wpp,l_wpp⟩:=bO z_wpp;obtain ⟨x_wp,f_wp,l_wp⟩:=bO z_wp;obtain ⟨x_w,f_w,l_w⟩:=bO z_w;clear hbw1 bb
  rw [hk]
  go_wp2_with fail;refine bHit w (by exact zB) fun bb=>?_;refine (wCopy_any c a b p q _ ((H1.out.below bb).more bb.size) Z1.out ((H2.out.below bb).more bb.size) Z2.out m1 m2).mono ?_;rintro _ w2 ⟨⟨v1,v2,rfl,o1,o2⟩,hbw2⟩;have hCw2:Below w.heap.size w w2:=bT bb hbw2;have hsw2:=hbw2.size;(try simp at hsw2);have zz:=q4 hbw2 (b:=w.heap.size);(first|simp [go_sem,z_wppp,z_wpp,z_wp,z_w,l_w,l_wp,l_wpp,l_wppp] at zz|simp [go_sem] at zz|skip);(try clear z_wppp x_wppp f_wppp l_wppp);(try clear z_wpp x_wpp f_wpp l_wpp);(try clear z_wp x_wp f_wp l_wp);(try clear z_w x_w f_w l_w);obtain ⟨z_wppp,z_wpp,z_wp,z_w⟩:=zz;obtain ⟨x_wppp,f_wppp,l_wppp⟩:=bO z_wppp;obtain ⟨x_wpp,f_wpp,l_wpp⟩:=bO z_wpp;obtain ⟨x_wp,f_wp,l_wp⟩:=bO z_wp;obtain ⟨x_w,f_w,l_w⟩:=bO z_w;clear hbw2 bb
  have d1:∀ j,v1.ownBlock=some j→w.heap.size+1+1+1+1≤j:=fun j hj=>by have:=(o1.lt j hj).1;omega
  have d2:∀ j,v2.ownBlock=some j→w.heap.size+1+1+1+1≤j:=fun j hj=>by have:=(o2.lt j hj).1;omega
  have p1:=own_lo (lo':=w.heap.size) o1 (by omega)
  have p2:=own_lo (lo':=w.heap.size) o2 (by omega)
  obtain ⟨a1,q1,rfl,_⟩:=o1.seg
  obtain ⟨a2,q2,rfl,_⟩:=o2.seg
  go_wp2_with fail;refine bHit w (by exact zB) fun bb=>?_;refine (D.out _ _ _ (by exact zO p1 o1) (by exact zO p2 o2)).mono ?_;rintro _ w3 ⟨⟨y1,y2,rfl,oY1,oY2,fY1,fY2⟩,hbw3⟩;have hCw3:Below w.heap.size w w3:=bT bb hbw3;have hsw3:=hbw3.size;(try simp at hsw3);have zz:=q4 hbw3 (b:=w.heap.size);(first|simp [go_sem,z_wppp,z_wpp,z_wp,z_w,l_w,l_wp,l_wpp,l_wppp] at zz|simp [go_sem] at zz|skip);(try clear z_wppp x_wppp f_wppp l_wppp);(try clear z_wpp x_wpp f_wpp l_wpp);(try clear z_wp x_wp f_wp l_wp);(try clear z_w x_w f_w l_w);obtain ⟨z_wppp,z_wpp,z_wp,z_w⟩:=zz;obtain ⟨x_wppp,f_wppp,l_wppp⟩:=bO z_wppp;obtain ⟨x_wpp,f_wpp,l_wpp⟩:=bO z_wpp;obtain ⟨x_wp,f_wp,l_wp⟩:=bO z_wp;obtain ⟨x_w,f_w,l_w⟩:=bO z_w;clear hbw3 bb
  have hoff1:∀ j,w.heap.size≤j→j<w.heap.size+1+1+1+1→y1.ownBlock≠some j:=fun j _ h2=>fY1.off2 d1 h2 (by (try simp) <;> omega);have hoff2:∀ j,w.heap.size≤j→j<w.heap.size+1+1+1+1→y2.ownBlock≠some j:=fun j _ h2=>fY2.off2 d2 h2 (by (try simp) <;> omega);have fr1:Fresh w (.slice none 0 0) y1:=fun j hj=>.inr (fY1.up d1 (by (try simp) <;> omega) (by (try simp) <;> omega) j hj);have fr2:Fresh w (.slice none 0 0) y2:=fun j hj=>.inr (fY2.up d2 (by (try simp) <;> omega) (by (try simp) <;> omega) j hj);obtain ⟨ya,yp,rfl,_⟩:=oY1.seg;obtain ⟨yb,yq,rfl,_⟩:=oY2.seg
  go_wp2
  refine bodyPost_ret (res_cct Tryz.results70 rfl (ldChan x.1 (.slice ya x.1.cells.length yp) (.slice yb x.1.words.length yq) (by simp [go_sem, *])) rfl (ldHand x.2.1 (by simp [go_sem, *]))) rfl ⟨⟨_,_,rfl,?_,?_,fr1,fr2⟩,by exact zB⟩
  · exact zP oY1 oY1 hoff1
  · exact zP oY2 oY2 hoff2
set_option maxRecDepth 100000 in
set_option maxHeartbeats 2000000 in
theorem sSend_5 (c:Ch) (h:Ha) (a b:Option Addr) (p q:Nat) (w:World) (h1:Seg w w.heap.size a c.cells.length 3 (cellF c.cells)) (z1:a=none→p=0) (h2:Seg w w.heap.size b c.words.length 1 (intF c.words)) (z2:b=none→q=0) (hk:stepOk c h 1 8 1=true) (hp0:h.pos=5) :
    Calls Tryz.prog 70 #[.agg (cvals c (.slice a c.cells.length p) (.slice b c.words.length q)),.agg (hvals h)] w fun r w'=>StepN w w' (sendStep c h) r:=by
  have e:sendStep c h=done c { h with come:=c.got,pos:=6 }:=by simp [sendStep,hk,hp0]
  rw [e]
  obtain ⟨k1,k2,_,_⟩:=stepOk_yes hk
  obtain ⟨n1,n2⟩:=chan_40 k1
  have m1:c.cells.length≤1099511627776:=by omega
  have m2:c.words.length≤1099511627776:=by omega
  have H1:=Lib.hid h1
  have H2:=Lib.hid h2
  have Z1:=Lib.hid z1
  have Z2:=Lib.hid z2
  have D:=Lib.hid fun v1 v2 W=>l6Done_any c { h with come:=c.got,pos:=6 } v1 v2 w.heap.size W
  generalize done c { h with come:=c.got,pos:=6 }=x at *
  clear h1 h2 z1 z2 e k1 k2 n1 n2
  go_enter Tryz.func70,Tryz.ntmps70
  go_wp2_with fail;refine bHit w (by exact zB) fun bb=>?_;refine (l6Ok_any c h 1 8 1 a b p q _ ((H1.out.below bb).more bb.size) ((H2.out.below bb).more bb.size)).mono ?_;rintro _ w1 ⟨rfl,hbw1⟩;have hCw1:Below w.heap.size w w1:=bT bb hbw1;have hsw1:=hbw1.size;(try simp at hsw1);have zz:=q4 hbw1 (b:=w.heap.size);(try simp [go_sem] at zz);(try clear z_wppp x_wppp f_wppp l_wppp);(try clear z_wpp x_wpp f_wpp l_wpp);(try clear z_wp x_wp f_wp l_wp);(try clear z_w x_w f_w l_w);obtain ⟨z_wppp,z_wpp,z_wp,z_w⟩:=zz;obtain ⟨x_wppp,f_wppp,l_wppp⟩:=bO z_wppp;obtain ⟨x_wpp,f_wpp,l_wpp⟩:=bO z_wpp;obtain ⟨x_wp,f_wp,l_wp⟩:=bO z_wp;obtain ⟨x_w,f_w,l_w⟩:=bO z_w;clear hbw1 bb
  rw [hk]
  go_wp2_with fail;refine bHit w (by exact zB) fun bb=>?_;refine (wCopy_any c a b p q _ ((H1.out.below bb).more bb.size) Z1.out ((H2.out.below bb).more bb.size) Z2.out m1 m2).mono ?_;rintro _ w2 ⟨⟨v1,v2,rfl,o1,o2⟩,hbw2⟩;have hCw2:Below w.heap.size w w2:=bT bb hbw2;have hsw2:=hbw2.size;(try simp at hsw2);have zz:=q4 hbw2 (b:=w.heap.size);(first|simp [go_sem,z_wppp,z_wpp,z_wp,z_w,l_w,l_wp,l_wpp,l_wppp] at zz|simp [go_sem] at zz|skip);(try clear z_wppp x_wppp f_wppp l_wppp);(try clear z_wpp x_wpp f_wpp l_wpp);(try clear z_wp x_wp f_wp l_wp);(try clear z_w x_w f_w l_w);obtain ⟨z_wppp,z_wpp,z_wp,z_w⟩:=zz;obtain ⟨x_wppp,f_wppp,l_wppp⟩:=bO z_wppp;obtain ⟨x_wpp,f_wpp,l_wpp⟩:=bO z_wpp;obtain ⟨x_wp,f_wp,l_wp⟩:=bO z_wp;obtain ⟨x_w,f_w,l_w⟩:=bO z_w;clear hbw2 bb
  have d1:∀ j,v1.ownBlock=some j→w.heap.size+1+1+1+1≤j:=fun j hj=>by have:=(o1.lt j hj).1;omega
  have d2:∀ j,v2.ownBlock=some j→w.heap.size+1+1+1+1≤j:=fun j hj=>by have:=(o2.lt j hj).1;omega
  have p1:=own_lo (lo':=w.heap.size) o1 (by omega)
  have p2:=own_lo (lo':=w.heap.size) o2 (by omega)
  obtain ⟨a1,q1,rfl,_⟩:=o1.seg
  obtain ⟨a2,q2,rfl,_⟩:=o2.seg
  go_wp2_with fail;refine bHit w (by exact zB) fun bb=>?_;refine (D.out _ _ _ (by exact zO p1 o1) (by exact zO p2 o2)).mono ?_;rintro _ w3 ⟨⟨y1,y2,rfl,oY1,oY2,fY1,fY2⟩,hbw3⟩;have hCw3:Below w.heap.size w w3:=bT bb hbw3;have hsw3:=hbw3.size;(try simp at hsw3);have zz:=q4 hbw3 (b:=w.heap.size);(first|simp [go_sem,z_wppp,z_wpp,z_wp,z_w,l_w,l_wp,l_wpp,l_wppp] at zz|simp [go_sem] at zz|skip);(try clear z_wppp x_wppp f_wppp l_wppp);(try clear z_wpp x_wpp f_wpp l_wpp);(try clear z_wp x_wp f_wp l_wp);(try clear z_w x_w f_w l_w);obtain ⟨z_wppp,z_wpp,z_wp,z_w⟩:=zz;obtain ⟨x_wppp,f_wppp,l_wppp⟩:=bO z_wppp;obtain ⟨x_wpp,f_wpp,l_wpp⟩:=bO z_wpp;obtain ⟨x_wp,f_wp,l_wp⟩:=bO z_wp;obtain ⟨x_w,f_w,l_w⟩:=bO z_w;clear hbw3 bb
  have hoff1:∀ j,w.heap.size≤j→j<w.heap.size+1+1+1+1→y1.ownBlock≠some j:=fun j _ h2=>fY1.off2 d1 h2 (by (try simp) <;> omega);have hoff2:∀ j,w.heap.size≤j→j<w.heap.size+1+1+1+1→y2.ownBlock≠some j:=fun j _ h2=>fY2.off2 d2 h2 (by (try simp) <;> omega);have fr1:Fresh w (.slice none 0 0) y1:=fun j hj=>.inr (fY1.up d1 (by (try simp) <;> omega) (by (try simp) <;> omega) j hj);have fr2:Fresh w (.slice none 0 0) y2:=fun j hj=>.inr (fY2.up d2 (by (try simp) <;> omega) (by (try simp) <;> omega) j hj);obtain ⟨ya,yp,rfl,_⟩:=oY1.seg;obtain ⟨yb,yq,rfl,_⟩:=oY2.seg
  go_wp2
  refine bodyPost_ret (res_cct Tryz.results70 rfl (ldChan x.1 (.slice ya x.1.cells.length yp) (.slice yb x.1.words.length yq) (by simp [go_sem, *])) rfl (ldHand x.2.1 (by simp [go_sem, *]))) rfl ⟨⟨_,_,rfl,?_,?_,fr1,fr2⟩,by exact zB⟩
  · exact zP oY1 oY1 hoff1
  · exact zP oY2 oY2 hoff2
set_option maxRecDepth 100000 in
set_option maxHeartbeats 2000000 in
theorem sSend_1b (c:Ch) (h:Ha) (a b:Option Addr) (p q:Nat) (w:World) (h1:Seg w w.heap.size a c.cells.length 3 (cellF c.cells)) (z1:a=none→p=0) (h2:Seg w w.heap.size b c.words.length 1 (intF c.words)) (z2:b=none→q=0) (hk:stepOk c h 1 8 1=true) (hp0:h.pos=1) (hs:¬ c.sent=40) (hsr:0≤c.sent∧c.sent≤40) :
    Calls Tryz.prog 70 #[.agg (cvals c (.slice a c.cells.length p) (.slice b c.words.length q)),.agg (hvals h)] w fun r w'=>StepN w w' (sendStep c h) r:=by
  have e:sendStep c h=done { c with sent:=c.sent+1 } { h with cell:=c.sent,pos:=2 }:=by simp [sendStep,hk,hp0,send1,hs]
  rw [e]
  obtain ⟨k1,k2,_,_⟩:=stepOk_yes hk
  obtain ⟨n1,n2⟩:=chan_40 k1
  have m1:c.cells.length≤1099511627776:=by omega
  have m2:c.words.length≤1099511627776:=by omega
  have H1:=Lib.hid h1
  have H2:=Lib.hid h2
  have Z1:=Lib.hid z1
  have Z2:=Lib.hid z2
  have D:=Lib.hid fun v1 v2 W=>l6Done_any { c with sent:=c.sent+1 } { h with cell:=c.sent,pos:=2 } v1 v2 w.heap.size W
  generalize done { c with sent:=c.sent+1 } { h with cell:=c.sent,pos:=2 }=x at *
  clear h1 h2 z1 z2 e k1 k2 n1 n2
  go_enter Tryz.func70,Tryz.ntmps70
  go_wp2_with fail;refine bHit w (by exact zB) fun bb=>?_;refine (l6Ok_any c h 1 8 1 a b p q _ ((H1.out.below bb).more bb.size) ((H2.out.below bb).more bb.size)).mono ?_;rintro _ w1 ⟨rfl,hbw1⟩;have hCw1:Below w.heap.size w w1:=bT bb hbw1;have hsw1:=hbw1.size;(try simp at hsw1);have zz:=q4 hbw1 (b:=w.heap.size);(try simp [go_sem] at zz);(try clear z_wppp x_wppp f_wppp l_wppp);(try clear z_wpp x_wpp f_wpp l_wpp);(try clear z_wp x_wp f_wp l_wp);(try clear z_w x_w f_w l_w);obtain ⟨z_wppp,z_wpp,z_wp,z_w⟩:=zz;obtain ⟨x_wppp,f_wppp,l_wppp⟩:=bO z_wppp;obtain ⟨x_wpp,f_wpp,l_wpp⟩:=bO z_wpp;obtain ⟨x_wp,f_wp,l_wp⟩:=bO z_wp;obtain ⟨x_w,f_w,l_w⟩:=bO z_w;clear hbw1 bb
  rw [hk]
  go_wp2_with fail;refine bHit w (by exact zB) fun bb=>?_;refine (wCopy_any c a b p q _ ((H1.out.below bb).more bb.size) Z1.out ((H2.out.below bb).more bb.size) Z2.out m1 m2).mono ?_;rintro _ w2 ⟨⟨v1,v2,rfl,o1,o2⟩,hbw2⟩;have hCw2:Below w.heap.size w w2:=bT bb hbw2;have hsw2:=hbw2.size;(try simp at hsw2);have zz:=q4 hbw2 (b:=w.heap.size);(first|simp [go_sem,z_wppp,z_wpp,z_wp,z_w,l_w,l_wp,l_wpp,l_wppp] at zz|simp [go_sem] at zz|skip);(try clear z_wppp x_wppp f_wppp l_wppp);(try clear z_wpp x_wpp f_wpp l_wpp);(try clear z_wp x_wp f_wp l_wp);(try clear z_w x_w f_w l_w);obtain ⟨z_wppp,z_wpp,z_wp,z_w⟩:=zz;obtain ⟨x_wppp,f_wppp,l_wppp⟩:=bO z_wppp;obtain ⟨x_wpp,f_wpp,l_wpp⟩:=bO z_wpp;obtain ⟨x_wp,f_wp,l_wp⟩:=bO z_wp;obtain ⟨x_w,f_w,l_w⟩:=bO z_w;clear hbw2 bb
  have d1:∀ j,v1.ownBlock=some j→w.heap.size+1+1+1+1≤j:=fun j hj=>by have:=(o1.lt j hj).1;omega
  have d2:∀ j,v2.ownBlock=some j→w.heap.size+1+1+1+1≤j:=fun j hj=>by have:=(o2.lt j hj).1;omega
  have p1:=own_lo (lo':=w.heap.size) o1 (by omega)
  have p2:=own_lo (lo':=w.heap.size) o2 (by omega)
  obtain ⟨a1,q1,rfl,_⟩:=o1.seg
  obtain ⟨a2,q2,rfl,_⟩:=o2.seg
  have hs0:¬ c.sent=40:=hs
  have hsb:0≤c.sent∧c.sent≤40:=hsr
  go_wp2_with fail;refine bHit w (by exact zB) fun bb=>?_;refine (D.out _ _ _ (by exact zO p1 o1) (by exact zO p2 o2)).mono ?_;rintro _ w3 ⟨⟨y1,y2,rfl,oY1,oY2,fY1,fY2⟩,hbw3⟩;have hCw3:Below w.heap.size w w3:=bT bb hbw3;have hsw3:=hbw3.size;(try simp at hsw3);have zz:=q4 hbw3 (b:=w.heap.size);(first|simp [go_sem,z_wppp,z_wpp,z_wp,z_w,l_w,l_wp,l_wpp,l_wppp] at zz|simp [go_sem] at zz|skip);(try clear z_wppp x_wppp f_wppp l_wppp);(try clear z_wpp x_wpp f_wpp l_wpp);(try clear z_wp x_wp f_wp l_wp);(try clear z_w x_w f_w l_w);obtain ⟨z_wppp,z_wpp,z_wp,z_w⟩:=zz;obtain ⟨x_wppp,f_wppp,l_wppp⟩:=bO z_wppp;obtain ⟨x_wpp,f_wpp,l_wpp⟩:=bO z_wpp;obtain ⟨x_wp,f_wp,l_wp⟩:=bO z_wp;obtain ⟨x_w,f_w,l_w⟩:=bO z_w;clear hbw3 bb
  have hoff1:∀ j,w.heap.size≤j→j<w.heap.size+1+1+1+1→y1.ownBlock≠some j:=fun j _ h2=>fY1.off2 d1 h2 (by (try simp) <;> omega);have hoff2:∀ j,w.heap.size≤j→j<w.heap.size+1+1+1+1→y2.ownBlock≠some j:=fun j _ h2=>fY2.off2 d2 h2 (by (try simp) <;> omega);have fr1:Fresh w (.slice none 0 0) y1:=fun j hj=>.inr (fY1.up d1 (by (try simp) <;> omega) (by (try simp) <;> omega) j hj);have fr2:Fresh w (.slice none 0 0) y2:=fun j hj=>.inr (fY2.up d2 (by (try simp) <;> omega) (by (try simp) <;> omega) j hj);obtain ⟨ya,yp,rfl,_⟩:=oY1.seg;obtain ⟨yb,yq,rfl,_⟩:=oY2.seg
  go_wp2
  refine bodyPost_ret (res_cct Tryz.results70 rfl (ldChan x.1 (.slice ya x.1.cells.length yp) (.slice yb x.1.words.length yq) (by simp [go_sem, *])) rfl (ldHand x.2.1 (by simp [go_sem, *]))) rfl ⟨⟨_,_,rfl,?_,?_,fr1,fr2⟩,by exact zB⟩
  · exact zP oY1 oY1 hoff1
  · exact zP oY2 oY2 hoff2
end Go.Proofs.YtmnpgkcdfielbaaGreat
set_option linter.unusedSimpArgs false
set_option linter.unusedVariables false
namespace Go.Proofs.YtmnpgkcdfielbaaGreat
open Go.RowKit
def upd {α:Type} (f:Nat→α) (k:Nat) (v:α):Nat→α:=fun j=>cond (Nat.beq j k) v (f j)
theorem upd_at {α:Type} (f:Nat→α) (k j:Nat) (v:α):upd f k v j=if j=k then v else f j:=by
  unfold upd
  by_cases h:j=k
  · subst h;simp
  · have:Nat.beq j k=false:=by cases hb:Nat.beq j k with
      | false=>rfl
      | true=>exact absurd (Nat.eq_of_beq_eq_true hb) h
    simp [this,h]
theorem nU {b:Bool} {P:Prop} (e:b=false) (h:b=true):P:=by rw [e] at h;cases h
def fillA (t:Array Value):List Nat→(Nat→Value)→Array Value
  | [],_=>t
  | d :: ds,s=>(fillA t ds s).setIfInBounds d (s d)
def fill (a:Act) (ds:List Nat) (s:Nat→Value):Act:=⟨fillA a.tmps ds s,a.defers⟩
theorem fillA_size (t:Array Value) (ds:List Nat) (s:Nat→Value):(fillA t ds s).size=t.size:=by
  induction ds with
  | nil=>rfl
  | cons d ds ih=>simp [fillA,ih]
theorem fillA_get (t:Array Value) (ds:List Nat) (s:Nat→Value) (k:Nat):(fillA t ds s)[k]?=if k ∈ ds then (t[k]?).map (fun _=>s k) else t[k]?:=by
  induction ds with
  | nil=>simp [fillA]
  | cons d ds ih =>
    simp only [fillA,Array.getElem?_setIfInBounds,fillA_size]
    by_cases h:d=k
    · subst h
      by_cases hl:d<t.size
      · simp [hl]
      · simp [hl]
    · have h2:¬ k=d:=fun e=>h e.symm
      simp only [h,if_false,List.mem_cons,h2,false_or]
      exact ih
theorem fill_self (a:Act) (ds:List Nat):fill a ds (fun k=>a.tmps.getD k undef)=a:=by
  unfold fill
  have:fillA a.tmps ds (fun k=>a.tmps.getD k undef)=a.tmps:=by
    apply Array.ext_getElem?
    intro k
    rw [fillA_get]
    by_cases hl:k<a.tmps.size
    · simp [hl]
    · simp [hl]
  rw [this]
/-- How many have not come up yet. -/
def left (l:Nat→Bool):Nat→Nat
  | 0=>0
  | n+1=>left l n+cond (l n) 0 1
theorem left_far (l:Nat→Bool) (i n:Nat) (h:n≤i):left (upd l i true) n=left l n:=by
  induction n with
  | zero=>rfl
  | succ n ih =>
    have:upd l i true n=l n:=by rw [upd_at,if_neg (by omega)]
    simp [left,ih (by omega),this]
theorem left_upd (l:Nat→Bool) (i n:Nat) (h:i<n) (hi:l i=false):left (upd l i true) n+1=left l n:=by
  induction n with
  | zero=>omega
  | succ n ih =>
    by_cases e:i=n
    · subst e
      have:upd l i true i=true:=by rw [upd_at,if_pos rfl]
      simp [left,left_far l i i (Nat.le_refl _),this,hi]
    · have:upd l i true n=l n:=by rw [upd_at,if_neg (by omega)]
      have:=ih (by omega)
      simp only [left, *]
      omega
theorem left_zero (l:Nat→Bool) (n:Nat) (h:left l n=0):∀ i,i<n→l i=true:=by
  induction n with
  | zero=>intro i hi;omega
  | succ n ih =>
    intro i hi
    simp only [left] at h
    by_cases e:i=n
    · subst e
      cases hl:l i with
      | true=>rfl
      | false=>simp [hl] at h
    · exact ih (by omega) i (by omega)
/-- The lists of what must have come up before each, held against the region: each waits for earlier ones alone, and each that is listed is waited for, or one that is waited for waits for it. -/
def waitsOk (T:List (List Nat)):Nat→List Oper→Bool
  | _,[]=>true
  | i,o :: os=>(o.after.toList.all fun e=>!Region.binds .any e || Nat.blt e.on i) && ((T.getD i []).all fun t=>o.after.toList.any fun e=>Region.binds .any e && (Nat.beq e.on t || (T.getD e.on []).any fun u=>Nat.beq u t)) && waitsOk T (i+1) os
theorem waitsOk_at {T:List (List Nat)} {j:Nat} {o:Oper}:∀ (os:List Oper) (i:Nat),waitsOk T i os=true→os[j]?=some o →
    (∀ e ∈ o.after,Region.binds .any e=true→e.on<i+j)∧∀ t ∈ T.getD (i+j) [],∃ e ∈ o.after,Region.binds .any e=true∧(e.on=t∨t ∈ T.getD e.on []):=by
  induction j with
  | zero =>
    intro os i h ho
    cases os with
    | nil=>simp at ho
    | cons p os =>
      simp at ho
      subst ho
      simp only [waitsOk,Bool.and_eq_true] at h
      obtain ⟨⟨h1,h2⟩,_⟩:=h
      refine ⟨fun e he hb=>?_,fun t ht=>?_⟩
      · have:=List.all_eq_true.1 h1 e (by simpa using he)
        simp [hb] at this
        simpa [Nat.blt_eq] using this
      · have:=List.all_eq_true.1 h2 t (by simpa using ht)
        obtain ⟨e,he,h3⟩:=List.any_eq_true.1 this
        simp only [Bool.and_eq_true,Bool.or_eq_true] at h3
        refine ⟨e,by simpa using he,h3.1,?_⟩
        rcases h3.2 with h4|h4
        · exact .inl (Nat.eq_of_beq_eq_true h4)
        · obtain ⟨u,hu,h5⟩:=List.any_eq_true.1 h4
          exact .inr ((Nat.eq_of_beq_eq_true h5) ▸ hu)
  | succ j ih =>
    intro os i h ho
    cases os with
    | nil=>simp at ho
    | cons p os =>
      simp at ho
      simp only [waitsOk,Bool.and_eq_true] at h
      have:=ih os (i+1) h.2 ho
      rw [show i+(j+1)=i+1+j by omega]
      exact this
section
variable {P:Program} {ops:Array Oper} {Q:Exit→Act→World→Prop}
/-- One operation, whatever came up before it. -/
def StepAt (P:Program) (ops:Array Oper) (Q:Exit→Act→World→Prop) (T:List (List Nat)) (F:(Nat→Value)→Act) (Φ:(Nat→Bool)→(Nat→Value)→World→Prop) (i:Nat) (o:Oper):Prop :=
  ∀ (l:Nat→Bool) (s:Nat→Value) (w:World),l i=false→(∀ t,(T.getD i []).any (Nat.beq t)=true→l t=true)→(∀ j,(T.getD j []).any (Nat.beq i)=true→l j=false)→Φ l s w →
    ∀ K':Act→World→Prop,Shut (∀ s' a' w',a'=F s'→Φ (upd l i true) s' w'→K' a' w')→if Region.wanted o (yielded ops (F s).tmps)=true then Oper.wp P o (F s) w K' Q else K' ((F s).put o.dst undef) w
def Steps (P:Program) (ops:Array Oper) (Q:Exit→Act→World→Prop) (T:List (List Nat)) (F:(Nat→Value)→Act) (Φ:(Nat→Bool)→(Nat→Value)→World→Prop):Nat→List Oper→Prop
  | _,[]=>True
  | i,o :: os=>StepAt P ops Q T F Φ i o∧Steps P ops Q T F Φ (i+1) os
theorem Steps.at {T:List (List Nat)} {F:(Nat→Value)→Act} {Φ:(Nat→Bool)→(Nat→Value)→World→Prop} {j:Nat} {o:Oper}:∀ (os:List Oper) (i:Nat),Steps P ops Q T F Φ i os→os[j]?=some o→StepAt P ops Q T F Φ (i+j) o:=by
  induction j with
  | zero =>
    intro os i h ho
    cases os with
    | nil=>simp at ho
    | cons p os=>simp at ho;subst ho;exact h.1
  | succ j ih =>
    intro os i h ho
    cases os with
    | nil=>simp at ho
    | cons p os =>
      simp at ho
      have:=ih os (i+1) h.2 ho
      rw [show i+(j+1)=i+1+j by omega]
      exact this
theorem any_beq {L:List Nat} {t:Nat}:L.any (Nat.beq t)=true↔t ∈ L:=by
  rw [List.any_eq_true]
  constructor
  · rintro ⟨x,hx,he⟩
    exact (Nat.eq_of_beq_eq_true he) ▸ hx
  · intro h
    exact ⟨t,h,by simp⟩
theorem wpAny_inv {T:List (List Nat)} {F:(Nat→Value)→Act} {Φ:(Nat→Bool)→(Nat→Value)→World→Prop} (hT:waitsOk T 0 ops.toList=true) (hTl:Nat.ble T.length ops.size=true) (steps:Steps P ops Q T F Φ 0 ops.toList)
    (fin:∀ (l:Nat→Bool) (s:Nat→Value) (w:World),(∀ i,Nat.blt i ops.size=true→l i=true)→Φ l s w→Q .normal (F s) w) :
    ∀ (fuel:Nat) (listed:Array Bool) (l:Nat→Bool) (s:Nat→Value) (w:World),listed.size=ops.size→(∀ i,i<ops.size→listed[i]?=some (l i))→left l ops.size≤fuel →
      (∀ i e o,ops[i]?=some o→e ∈ o.after→Region.binds .any e=true→l i=true→l e.on=true)→Φ l s w→wpAny P .any ops Q fuel listed (F s) w:=by
  have W:∀ i o,ops[i]?=some o→(∀ e ∈ o.after,Region.binds .any e=true→e.on<i)∧∀ t ∈ T.getD i [],∃ e ∈ o.after,Region.binds .any e=true∧(e.on=t∨t ∈ T.getD e.on []):=by
    intro i o ho
    have:=waitsOk_at (j:=i) ops.toList 0 hT (by simpa using ho)
    simpa using this
  have up:∀ (l:Nat→Bool),(∀ i e o,ops[i]?=some o→e ∈ o.after→Region.binds .any e=true→l i=true→l e.on=true)→∀ n i,i<n→i<ops.size→l i=true→∀ t ∈ T.getD i [],l t=true:=by
    intro l hc n
    induction n with
    | zero=>intro i hi;omega
    | succ n ih =>
      intro i hi hs hl t ht
      have ho:ops[i]?=some ops[i]:=by simp [hs]
      obtain ⟨e,he,hb,h3⟩:=(W i _ ho).2 t ht
      have h1:=hc i e _ ho he hb hl
      have h2:=(W i _ ho).1 e he hb
      rcases h3 with h3|h3
      · exact h3 ▸ h1
      · exact ih e.on (by omega) (by omega) h1 t h3
  have all:∀ (listed:Array Bool) (l:Nat→Bool),listed.size=ops.size→(∀ i,i<ops.size→listed[i]?=some (l i))→Region.ready .any ops listed=[]→∀ n i,i<n→i<ops.size→l i=true:=by
    intro listed l hsz hl hr n
    induction n with
    | zero=>intro i hi;omega
    | succ n ih =>
      intro i hi hs
      cases hli:l i with
      | true=>rfl
      | false =>
        have ho:ops[i]?=some ops[i]:=by simp [hs]
        have hm:i ∈ Region.ready .any ops listed:=mem_ready.2 ⟨by simp [Array.getD_eq_getD_getElem?,hl i hs,hli],_,ho,fun e he hb=>by
          have h2:=(W i _ ho).1 e he hb
          have h3:=ih e.on (by omega) (by omega)
          simp [Array.getD_eq_getD_getElem?,hl e.on (by omega),h3]⟩
        rw [hr] at hm
        cases hm
  intro fuel
  induction fuel with
  | zero =>
    intro listed l s w hsz hl hf hc hΦ
    have h0:=left_zero l ops.size (by omega)
    refine ⟨?_,fin l s w (fun i hi=>h0 i (by simpa [Nat.blt_eq] using hi)) hΦ⟩
    apply List.eq_nil_iff_forall_not_mem.2
    intro i hi
    obtain ⟨h1,o,ho,_⟩:=mem_ready.1 hi
    have hs:i<ops.size:=(Array.getElem?_eq_some_iff.1 ho).1
    rw [Array.getD_eq_getD_getElem?,hl i hs,h0 i hs] at h1
    cases h1
  | succ fuel ih =>
    intro listed l s w hsz hl hf hc hΦ
    refine ⟨fun hr=>fin l s w (fun i hi=>all listed l hsz hl hr (i+1) i (by omega) (by simpa [Nat.blt_eq] using hi)) hΦ,fun i hi=>?_⟩
    obtain ⟨h1,o,ho,hall⟩:=mem_ready.1 hi
    have hs:i<ops.size:=(Array.getElem?_eq_some_iff.1 ho).1
    have hli:l i=false:=by
      rw [Array.getD_eq_getD_getElem?,hl i hs] at h1
      simpa using h1
    have hd:∀ e ∈ o.after,Region.binds .any e=true→l e.on=true:=fun e he hb=>by
      have h2:=hall e he hb
      have h3:=(W i o ho).1 e he hb
      rw [Array.getD_eq_getD_getElem?,hl e.on (by omega)] at h2
      simpa using h2
    have hst:=Steps.at (j:=i) ops.toList 0 steps (by simpa using ho)
    rw [Nat.zero_add] at hst
    refine wpOp_step ho fun K' hK=>hst l s w hli (fun t ht=>?_) (fun j hj=>?_) hΦ K' (fun s' a' w' ea hΦ'=>hK _ _ ?_)
    · obtain ⟨e,he,hb,h3⟩:=(W i o ho).2 t (any_beq.1 ht)
      rcases h3 with h3|h3
      · exact h3 ▸ hd e he hb
      · exact up l hc (e.on+1) e.on (by omega) (by have:=(W i o ho).1 e he hb;omega) (hd e he hb) t h3
    · have hj2:=any_beq.1 hj
      cases hlj:l j with
      | false=>rfl
      | true =>
        by_cases hjs:j<ops.size
        · have:=up l hc (j+1) j (by omega) hjs hlj i hj2
          rw [hli] at this
          cases this
        · have h5:=Nat.le_of_ble_eq_true hTl
          simp [List.getD_eq_getElem?_getD,List.getElem?_eq_none (show T.length≤j by omega)] at hj2
    · subst ea
      refine ih _ (upd l i true) s' w' (by simpa using hsz) (fun k hk=>?_) (by have:=left_upd l i ops.size hs hli;omega) (fun k e o2 ho2 he hb hk=>?_) hΦ'
      · rw [Array.getElem?_setIfInBounds,upd_at,hl k hk]
        by_cases e:i=k
        · subst e;simp [hsz,hs]
        · have e2:¬ k=i:=fun x=>e x.symm
          simp [e,e2]
      · rw [upd_at] at hk ⊢
        by_cases e1:e.on=i
        · simp [e1]
        · rw [if_neg e1]
          by_cases e2:k=i
          · subst e2
            rw [ho] at ho2
            obtain rfl:=Option.some.inj ho2
            exact hd e he hb
          · rw [if_neg e2] at hk
            exact hc k e o2 ho2 he hb hk
/-- A drawn region: the frame F by what lies in the slots, the invariant Φ by what has come up. -/
theorem wp_region_inv {id:Nat} {a:Act} {w:World} (T:List (List Nat)) (ds:List Nat) (Φ:(Nat→Bool)→(Nat→Value)→World→Prop) {F:(Nat→Value)→Act} (hm:P.follows .mixedOrders=true) (hT:waitsOk T 0 ops.toList=true) (hTl:Nat.ble T.length ops.size=true)
    (hF:∀ s,fill a ds s=F s) (h0:∀ s,Φ (fun _=>false) s w.drew) (steps:Steps P ops Q T F Φ 0 ops.toList)
    (fin:∀ (l:Nat→Bool) (s:Nat→Value) (w:World),(∀ i,Nat.blt i ops.size=true→l i=true)→Φ l s w→Q .normal (F s) w):(Code.region id ops true).wp P Q a w:=by
  refine wp_region_any hm ?_
  have:=wpAny_inv hT hTl steps fin ops.size (Array.replicate ops.size false) (fun _=>false) (fun k=>a.tmps.getD k undef) w.drew (by simp) (fun i hi=>by simp [hi]) (by
    generalize ops.size=n
    induction n with
    | zero=>simp [left]
    | succ n ih=>simp [left];exact ih) (fun i e o _ _ _ h=>by cases h) (h0 _)
  rw [← hF,fill_self] at this
  exact this
end
end Go.Proofs.YtmnpgkcdfielbaaGreat
set_option linter.unusedSimpArgs false
set_option linter.unusedVariables false
namespace Go.Proofs.YtmnpgkcdfielbaaGreat
open Go.RowKit
variable {w w':World} {v:Value} {lo b:Nat} {x y ys:Array Value} {T T':TypeId}
theorem belowAlloc (w:World) (o:Obj):Below w.heap.size w (w.alloc o):=(Below.refl _ _).alloc (Nat.le_refl _) o
theorem hpS (h:hp w b=some (.cells x T)) (hb:Below w.heap.size w w'):hp w' b=some (.cells x T):=(hpB hb (bO h).2.2).trans h
def IsBox (w:World) (v:Value) (lo:Nat) (x:Array Value) (T:TypeId):Prop:=∃ b,v=.pointer (some ⟨b,0,none⟩)∧lo≤b∧hp w b=some (.cells x T)
theorem IsBox.below (h:IsBox w v lo x T) (hb:Below w.heap.size w w'):IsBox w' v lo x T:=by
  obtain ⟨b,e,hl,hz⟩:=h
  exact ⟨b,e,hl,hpS hz hb⟩
theorem IsBox.new (h:lo≤w.heap.size):IsBox (w.alloc (.cells x T)) (.pointer (some ⟨w.heap.size,0,none⟩)) lo x T :=
  ⟨_,rfl,h,heap_alloc_new w _⟩
theorem hp_far (hz:hp w b=some (.cells y T')) {b':Nat} (h:hp w b'=some (.cells x T)) (hne:T≠T'):hp (setBox w b ys) b'=some (.cells x T):=by
  have:b'≠b:=by
    rintro rfl
    rw [hz] at h
    simp at h
    exact hne h.2.symm
  exact (bx_heap_ne this).trans h
theorem hp_set (hz:hp w b=some (.cells y T)):hp (setBox w b ys) b=some (.cells ys T):=by rw [bx_heap_at,hz];rfl
theorem IsBox.far (h:IsBox w v lo x T) (hz:hp w b=some (.cells y T')) (hne:T≠T'):IsBox (setBox w b ys) v lo x T:=by
  obtain ⟨b',e,hl,h⟩:=h
  exact ⟨b',e,hl,hp_far hz h hne⟩
theorem own_far {e:TypeId} {k m:Nat} {u:Value} {xs:List Value} (h:w.ownsRow lo e k u m xs) (hz:hp w b=some (.cells y T')) (hne:e≠T'):(setBox w b ys).ownsRow lo e k u m xs:=by
  refine own_box h fun e2=>?_
  rcases h.2 with ⟨rfl,_⟩|⟨g,cap,cur,rfl,_,hg,_⟩
  · cases e2
  · simp [Value.ownBlock] at e2
    subst e2
    unfold hp at hz
    rw [hz] at hg
    simp at hg
    exact hne hg.2.symm
theorem own_offs {e:TypeId} {k m:Nat} {u:Value} {xs:List Value} (h:w.ownsRow lo e k u m xs) (hz:hp w b=some (.cells y T')) (hne:e≠T'):∀ i,u.ownBlock=some i→i≠b:=by
  rintro i e2 rfl
  rcases h.2 with ⟨rfl,_⟩|⟨g,cap,cur,rfl,_,hg,_⟩
  · cases e2
  · simp [Value.ownBlock] at e2
    subst e2
    unfold hp at hz
    rw [hz] at hg
    simp at hg
    exact hne hg.2.symm
theorem Row.belowS {n k:Nat} {f:Nat→Nat→Value} (h:Row w b T n k f) (hb:Below w.heap.size w w'):Row w' b T n k f:=by
  obtain ⟨c,h1,h2⟩:=h
  exact ⟨c,(hb.block b (Array.getElem?_eq_some_iff.1 h1).1).trans h1,h2⟩
end Go.Proofs.YtmnpgkcdfielbaaGreat
set_option linter.unusedSimpArgs false
set_option linter.unusedVariables false
namespace Go.Proofs.YtmnpgkcdfielbaaGreat
/- Chapter 7 -/
def viewAs (h:Ha) (x:C3):Ha:={ h with seen:=x.s,wait:=x.t,out:=x.e }
def view7 (c:Ch) (h:Ha):Ha × Bool :=
  let x:=cellAt c h.cell
  let y:=viewAs h x
  if x.s == 0 then ({ y with pos:=11 },true) else if x.s == 1 then ({ y with pos:=11 },true) else if x.s == 2 then ({ y with pos:=12 },true)
  else if x.s == 3 then ({ y with pos:=12 },true) else if x.s == 9 then (anew y,true) else (y,false)
def grow7 (h:Ha) (t:Int):Ha:={ h with nxt:=t,pos:=16 }
def turn7 (c:Ch) (h:Ha) (to wt:Int) (thn:Ha):St :=
  if turnCB c h.cell h.seen to wt then done (turnC c h.cell h.seen to wt) thn else done (turnC c h.cell h.seen to wt) { h with pos:=10 }
def then7 (h:Ha):Ha:=if h.pos == 16 then { h with nxt:=1 } else h
def take7 (c:Ch) (h:Ha):St :=
  if h.seen == 2 then turn7 c h 7 0 (grow7 h 0) else if h.seen == 3 then turn7 c h 5 h.wait { h with pos:=13 }
  else if h.seen != 0 && h.seen != 1 then nothing else if h.cell<h.come then turn7 c h 8 0 (grow7 h 2)
  else done (wait6 c h 4 16 10).1 (then7 (wait6 c h 4 16 10).2)
def recv1 (c:Ch) (h:Ha):St:=if c.got == 40 then done c (resting 4 0) else done { c with got:=c.got+1 } { h with cell:=c.got,pos:=10 }
def recv2 (c:Ch) (h:Ha):St:=if (cellAt c h.cell).s == 6 then (c,h,false) else if (view7 c h).2 then done c (view7 c h).1 else nothing
def wake7 (c:Ch) (h:Ha):St:=done (tellC c h.wait 1) { h with pos:=if tellB c h.wait 1 then 14 else 15 }
def recvStep (c:Ch) (h:Ha):St :=
  if stepOk c h 9 15 2 then
    if h.pos == 9 then recv1 c h else if h.pos == 10 then recv2 c h else if h.pos == 11 then done c { h with come:=c.sent,pos:=12 }
    else if h.pos == 12 then take7 c h else if h.pos == 13 then wake7 c h
    else if h.pos == 14 then done (stateC c h.cell 7) (grow7 h 0) else done (stateC c h.cell 9) (anew h)
  else nothing
/- Chapter 8 -/
def grown8 (h:Ha):Ha:=if h.nxt == 0 then resting 2 h.out else if h.nxt == 1 then { h with pos:=23 } else anew h
def meet8 (c:Ch) (h:Ha):Ha :=
  let x:=cellAt c h.grow
  let y:=seenAs h x
  if x.s == 0 then { y with pos:=19 } else if x.s == 3 then { y with pos:=19 } else if x.s == 9 then { y with pos:=16 } else grown8 y
def turn8 (c:Ch) (h:Ha) (to wt:Int) (thn:Ha):St :=
  if turnCB c h.grow h.seen to wt then done (turnC c h.grow h.seen to wt) thn else done (turnC c h.grow h.seen to wt) { h with pos:=18 }
def pull8 (c:Ch) (h:Ha):St:=if h.seen == 3 then turn8 c h 6 h.wait { h with pos:=20 } else if h.seen == 0 then turn8 c h 1 0 (grown8 h) else nothing
def begin8 (c:Ch) (h:Ha):Ch × Ha:=if c.cap == 0 || c.fin == 40 then (c,grown8 h) else ({ c with fin:=c.fin+1 },{ h with grow:=c.fin,pos:=17 })
def meetStep (c:Ch) (h:Ha):St:=if (cellAt c h.grow).s == 5 then (c,h,false) else done c (meet8 c h)
def raise8 (c:Ch) (h:Ha):St:=done (tellC c h.wait 1) { h with pos:=if tellB c h.wait 1 then 21 else 22 }
def growStep (c:Ch) (h:Ha):St :=
  if stepOk c h 16 22 2 then
    if h.pos == 16 then done (begin8 c h).1 (begin8 c h).2 else if h.pos == 17 then (if c.sent≤h.grow then done c (grown8 h) else done c { h with pos:=18 })
    else if h.pos == 18 then meetStep c h else if h.pos == 19 then pull8 c h else if h.pos == 20 then raise8 c h
    else if h.pos == 21 then done (stateC c h.grow 2) (grown8 h) else done (stateC c h.grow 9) { h with pos:=16 }
  else nothing
/- Chapters 9 and 10 -/
def park9 (c:Ch) (h:Ha):St :=
  if wordAt c h.mine == 0 then (c,h,false) else if wordAt c h.mine == 2 then done c { h with pos:=25 }
  else if h.code == 1 then done c (resting 1 0) else done c { h with pos:=24 }
def goneS (h:Ha):Int:=if h.code == 1 then 9 else 10
def parkStep (c:Ch) (h:Ha):St :=
  if stepOk c h 23 25 0 && (hasW c h.mine && !(h.pos == 24 && h.code == 1)) then
    if h.pos == 23 then park9 c h else if h.pos == 24 then done c (resting 2 (cellAt c h.cell).e) else done (stateC c h.cell (goneS h)) (resting 3 0)
  else nothing
def stepC (c:Ch) (h:Ha):St :=
  if inB h.pos 1 8 then sendStep c h else if inB h.pos 9 15 then recvStep c h else if inB h.pos 16 22 then growStep c h else parkStep c h
end Go.Proofs.YtmnpgkcdfielbaaGreat
