/-
  The program's touches of sending that write: laying, keeping, waiting, calling, done; on hands and channels that are kept whole; the lists are the call's own.
  The contracts of the program's Laid and Turned; no condition.
  The program's touches of sending that write into a cell: laying, keeping; on hands and channels that are kept whole; the lists are the call's own.
  The program's waiting in a cell, on hands and channels that are kept whole; the lists are the call's own.
  The program's waiting to send and its calling, by what they hand on; on hands and channels that are kept whole; the lists are the call's own.
  The program's putting, on hands and channels that are kept whole; the lists are the call's own.
-/
import Derived.Test.YtajopaegmocnlaaP11
import Derived.Deep.DeepCutAuto
import Derived.BigRegion
import Derived.Test.YtajopaegmocnlaaP09
set_option linter.unusedSimpArgs false
set_option linter.unusedVariables false
namespace Go.Proofs.Ytajopaegmocnlaa
open Go.RowKit
set_option linter.unusedSimpArgs false
attribute [local simp] bx_size
attribute [local go_sem ↓] zeroHand zeroChan toLHand toLChan toVHand toVChan storeHand storeChan storeHandC storeChanC
theorem own_zcap {w:World} {lo:Nat} {e:TypeId} {k n p m:Nat} {a:Option Addr} {xs:List Value} (h:w.ownsRow lo e k (.slice a n p) m xs) (ha:a=none):p=0:=by
  rcases h.2 with ⟨h1,_⟩|⟨g,cap,cur,h1,_⟩
  · simp at h1;exact h1.2.2
  · subst ha;simp at h1
theorem tellC_ints (c:Ch) (v x:Int) (a b:Value):cvals (tellC c v x) a b=cvals c a b:=by unfold tellC;split <;> rfl
theorem chan_len {c:Ch} (e:chanOk c=true):c.cells.length=40∧c.words.length≤80:=by
  simp [chanOk,chanHead] at e
  omega
theorem pTold_any (c:Ch) (v x:Int) (v1 v2:Value) (lo:Nat) (w:World) (h1:OCells w lo v1 c.cells) (h2:OInts w lo v2 c.words) (hc:chanOk c=true) :
    Calls Try.prog 95 #[.agg (cvals c v1 v2),.int .i64 v,.int .i64 x] w fun r w'=>(∃ y1 y2,r=.returned (.tuple #[.agg (cvals c y1 y2),.bool (tellB c v x)])∧OCells w' w.heap.size y1 c.cells∧OInts w' w.heap.size y2 (tellC c v x).words)∧Below w.heap.size w w':=by
  obtain ⟨n1,n2⟩:=chan_len hc
  obtain ⟨a,p,rfl,g1⟩:=h1.seg
  obtain ⟨b,q,rfl,g2⟩:=h2.seg
  refine (told_any c v x a b p q w g1 (own_zcap h1) g2 (own_zcap h2) (by omega) (by omega)).mono ?_
  rintro _ w' ⟨⟨y1,y2,rfl,k1,k2⟩,hb⟩
  obtain ⟨e1,e2⟩:=told_yes (v:=v) (x:=x) hc
  rw [e1] at k1 k2
  rw [(tellC_cells c v x).1] at k1
  refine ⟨⟨y1,y2,?_,k1,k2⟩,hb⟩
  rw [e1,e2]
  show Ending.returned (.tuple #[.agg (cvals (tellC c v x) y1 y2),_])=_
  rw [tellC_ints]
theorem pFull_any (c:Ch) (v1 v2:Value) (lo:Nat) (w:World) (h1:OCells w lo v1 c.cells) (h2:OInts w lo v2 c.words) (hc:chanOk c=true) (hf:80≤c.words.length) :
    Calls Try.prog 104 #[.agg (cvals c v1 v2)] w fun r w'=>(∃ y1 y2,r=.returned (.tuple #[.agg (cvals c y1 y2),.int .i64 0])∧OCells w' w.heap.size y1 c.cells∧OInts w' w.heap.size y2 c.words)∧Below w.heap.size w w':=by
  obtain ⟨n1,n2⟩:=chan_len hc
  obtain ⟨a,p,rfl,g1⟩:=h1.seg
  obtain ⟨b,q,rfl,g2⟩:=h2.seg
  refine (waiter_any c a b p q w g1 (own_zcap h1) g2 (own_zcap h2) (by omega) (by omega)).mono ?_
  rintro _ w' ⟨⟨y1,y2,rfl,k1,k2⟩,hb⟩
  obtain ⟨e1,e2⟩:=waitC_full hc hf
  rw [e1] at k1 k2
  refine ⟨⟨y1,y2,?_,k1,k2⟩,hb⟩
  rw [e1,e2]
  rfl
theorem pMore_any (c:Ch) (v1 v2:Value) (lo:Nat) (w:World) (h1:OCells w lo v1 c.cells) (h2:OInts w lo v2 c.words) (hc:chanOk c=true) (hf:¬ 80≤c.words.length) :
    Calls Try.prog 104 #[.agg (cvals c v1 v2)] w fun r w'=>(∃ y1 y2,r=.returned (.tuple #[.agg (cvals c y1 y2),.int .i64 ((c.words.length:Int)+1)])∧OCells w' w.heap.size y1 c.cells∧OInts w' w.heap.size y2 (c.words ++ [0]))∧Below w.heap.size w w':=by
  obtain ⟨n1,n2⟩:=chan_len hc
  obtain ⟨a,p,rfl,g1⟩:=h1.seg
  obtain ⟨b,q,rfl,g2⟩:=h2.seg
  refine (waiter_any c a b p q w g1 (own_zcap h1) g2 (own_zcap h2) (by omega) (by omega)).mono ?_
  rintro _ w' ⟨⟨y1,y2,rfl,k1,k2⟩,hb⟩
  obtain ⟨e1,e2⟩:=waitC_more hc hf
  rw [e1] at k1 k2
  refine ⟨⟨y1,y2,?_,k1,k2⟩,hb⟩
  rw [e1,e2]
  rfl
/-- What a call answers that writes into nothing that was there. -/
def StepB (w w':World) (lo:Nat) (v1 v2:Value) (x:St) (r:Ending):Prop:=StepR w w' lo v1 v2 x r∧Below w.heap.size w w'
set_option maxRecDepth 100000 in
set_option maxHeartbeats 2000000 in
theorem woken_yes (c:Ch) (y z:Ha) (v1 v2:Value) (lo:Nat) (w:World) (h1:OCells w lo v1 c.cells) (h2:OInts w lo v2 c.words) (hc:chanOk c=true) (hlo:lo≤w.heap.size) (ht:tellB c y.wait 1=true) :
    Calls Try.prog 68 #[.agg (cvals c v1 v2),.agg (hvals y),.agg (hvals z)] w fun r w'=>StepB w w' lo v1 v2 ((tellC c y.wait 1,y,true)) r:=by
  have b1:=fun j (hj:v1.ownBlock=some j)=>(h1.lt j hj).2
  have b2:=fun j (hj:v2.ownBlock=some j)=>(h2.lt j hj).2
  obtain ⟨a1,q1,rfl,_⟩:=h1.seg
  obtain ⟨a2,q2,rfl,_⟩:=h2.seg
  have O1:=Lib.hid h1
  have O2:=Lib.hid h2
  clear h1 h2
  have o1:=O1.out
  have o2:=O2.out
  go_enter Try.func68,Try.ntmps68
  go_wp2_with fail;refine bHit w (by exact zB) fun bb=>?_;refine (pTold_any c y.wait 1 _ _ lo _ (by exact zO o1 o1) (by exact zO o2 o2) hc).mono ?_;rintro _ w1 ⟨⟨y1,y2,rfl,oY1,oY2⟩,hbw1⟩;have hCw1:Below w.heap.size w w1:=bT bb hbw1;have hsw1:=hbw1.size;(try simp at hsw1);have zz:=And.intro (hQ hbw1 (b:=w.heap.size+1+1+1+1)) <| And.intro (hQ hbw1 (b:=w.heap.size+1+1+1)) <| And.intro (hQ hbw1 (b:=w.heap.size+1+1)) <| And.intro (hQ hbw1 (b:=w.heap.size+1)) <| hQ hbw1 (b:=w.heap.size);(try simp [go_sem] at zz);(try clear z_wpppp x_wpppp f_wpppp l_wpppp);(try clear z_wppp x_wppp f_wppp l_wppp);(try clear z_wpp x_wpp f_wpp l_wpp);(try clear z_wp x_wp f_wp l_wp);(try clear z_w x_w f_w l_w);obtain ⟨z_wpppp,z_wppp,z_wpp,z_wp,z_w⟩:=zz;obtain ⟨x_wpppp,f_wpppp,l_wpppp⟩:=bO z_wpppp;obtain ⟨x_wppp,f_wppp,l_wppp⟩:=bO z_wppp;obtain ⟨x_wpp,f_wpp,l_wpp⟩:=bO z_wpp;obtain ⟨x_wp,f_wp,l_wp⟩:=bO z_wp;obtain ⟨x_w,f_w,l_w⟩:=bO z_w;have hKw1:Below w.heap.size w w1:=hCw1;clear hbw1 bb
  rw [ht]
  try simp at oY1 oY2
  have fY1:Fresh w (.slice a1 c.cells.length q1) y1:=fun j hj=>.inr (by have:=(oY1.lt j hj).1;(try simp at this);omega)
  have fY2:Fresh w (.slice a2 c.words.length q2) y2:=fun j hj=>.inr (by have:=(oY2.lt j hj).1;(try simp at this);omega)
  obtain ⟨ya,yp,rfl,_⟩:=oY1.seg
  obtain ⟨yb,yq,rfl,_⟩:=oY2.seg
  have r1:=own_lo (lo':=lo) oY1 (by omega)
  have r2:=own_lo (lo':=lo) oY2 (by omega)
  have k0:w.heap.size<w1.heap.size:=by omega
  have k1:w.heap.size+1<w1.heap.size:=by omega
  have k2:w.heap.size+1+1<w1.heap.size:=by omega
  have k3:w.heap.size+1+1+1<w1.heap.size:=by omega
  have k4:w.heap.size+1+1+1+1<w1.heap.size:=by omega
  go_wp2_with fail
  go_region
  go_wp2
  refine bodyPost_ret (res_cct Try.results68 rfl (ldChan c (.slice ya c.cells.length yp) (.slice yb (tellC c y.wait 1).words.length yq) (by simp [go_sem, *] <;> rfl)) rfl (ldHand y (by simp [go_sem, *] <;> rfl))) rfl ⟨⟨.slice ya c.cells.length yp,.slice yb (tellC c y.wait 1).words.length yq,by (rw [tellC_ints];rfl),?_,?_,fY1,fY2⟩,by exact zB⟩
  · show OCells _ lo _ (tellC c y.wait 1).cells
    rw [(tellC_cells c y.wait 1).1]
    exact zO r1 oY1
  · exact zO r2 oY2
set_option maxRecDepth 100000 in
set_option maxHeartbeats 2000000 in
theorem woken_no (c:Ch) (y z:Ha) (v1 v2:Value) (lo:Nat) (w:World) (h1:OCells w lo v1 c.cells) (h2:OInts w lo v2 c.words) (hc:chanOk c=true) (hlo:lo≤w.heap.size) (ht:tellB c y.wait 1=false) :
    Calls Try.prog 68 #[.agg (cvals c v1 v2),.agg (hvals y),.agg (hvals z)] w fun r w'=>StepB w w' lo v1 v2 ((c,z,true)) r:=by
  have b1:=fun j (hj:v1.ownBlock=some j)=>(h1.lt j hj).2
  have b2:=fun j (hj:v2.ownBlock=some j)=>(h2.lt j hj).2
  obtain ⟨a1,q1,rfl,_⟩:=h1.seg
  obtain ⟨a2,q2,rfl,_⟩:=h2.seg
  have O1:=Lib.hid h1
  have O2:=Lib.hid h2
  clear h1 h2
  have o1:=O1.out
  have o2:=O2.out
  go_enter Try.func68,Try.ntmps68
  go_wp2_with fail;refine bHit w (by exact zB) fun bb=>?_;refine (pTold_any c y.wait 1 _ _ lo _ (by exact zO o1 o1) (by exact zO o2 o2) hc).mono ?_;rintro _ w1 ⟨⟨y1,y2,rfl,oY1,oY2⟩,hbw1⟩;have hCw1:Below w.heap.size w w1:=bT bb hbw1;have hsw1:=hbw1.size;(try simp at hsw1);have zz:=And.intro (hQ hbw1 (b:=w.heap.size+1+1+1+1)) <| And.intro (hQ hbw1 (b:=w.heap.size+1+1+1)) <| And.intro (hQ hbw1 (b:=w.heap.size+1+1)) <| And.intro (hQ hbw1 (b:=w.heap.size+1)) <| hQ hbw1 (b:=w.heap.size);(try simp [go_sem] at zz);(try clear z_wpppp x_wpppp f_wpppp l_wpppp);(try clear z_wppp x_wppp f_wppp l_wppp);(try clear z_wpp x_wpp f_wpp l_wpp);(try clear z_wp x_wp f_wp l_wp);(try clear z_w x_w f_w l_w);obtain ⟨z_wpppp,z_wppp,z_wpp,z_wp,z_w⟩:=zz;obtain ⟨x_wpppp,f_wpppp,l_wpppp⟩:=bO z_wpppp;obtain ⟨x_wppp,f_wppp,l_wppp⟩:=bO z_wppp;obtain ⟨x_wpp,f_wpp,l_wpp⟩:=bO z_wpp;obtain ⟨x_wp,f_wp,l_wp⟩:=bO z_wp;obtain ⟨x_w,f_w,l_w⟩:=bO z_w;have hKw1:Below w.heap.size w w1:=hCw1;clear hbw1 bb
  rw [ht]
  obtain ⟨ya,yp,rfl,_⟩:=oY1.seg
  obtain ⟨yb,yq,rfl,_⟩:=oY2.seg
  have p1:=own_below o1 hKw1
  have p2:=own_below o2 hKw1
  have k0:w.heap.size<w1.heap.size:=by omega
  have k1:w.heap.size+1<w1.heap.size:=by omega
  have k2:w.heap.size+1+1<w1.heap.size:=by omega
  have k3:w.heap.size+1+1+1<w1.heap.size:=by omega
  have k4:w.heap.size+1+1+1+1<w1.heap.size:=by omega
  go_wp2_with fail
  go_region
  go_wp2
  refine bodyPost_ret (res_cct Try.results68 rfl (ldChan c (.slice a1 c.cells.length q1) (.slice a2 c.words.length q2) (by simp [go_sem, *] <;> rfl)) rfl (ldHand z (by simp [go_sem, *] <;> first|rfl|simp [seenAs,anew,hci]))) rfl ⟨⟨_,_,rfl,?_,?_,fresh_refl _ _,fresh_refl _ _⟩,by exact zB⟩
  · exact zO p1 o1
  · exact zO p2 o2
def wkS (c:Ch) (y z:Ha):St:=if tellB c y.wait 1 then (tellC c y.wait 1,y,true) else (c,z,true)
set_option maxRecDepth 100000 in
set_option maxHeartbeats 2000000 in
theorem woken_any (c:Ch) (y z:Ha) (v1 v2:Value) (lo:Nat) (w:World) (h1:OCells w lo v1 c.cells) (h2:OInts w lo v2 c.words) (hc:chanOk c=true) (hlo:lo≤w.heap.size) :
    Calls Try.prog 68 #[.agg (cvals c v1 v2),.agg (hvals y),.agg (hvals z)] w fun r w'=>StepB w w' lo v1 v2 (wkS c y z) r:=by
  cases ht:tellB c y.wait 1 with
  | true =>
    rw [show wkS c y z=(tellC c y.wait 1,y,true) by simp [wkS,ht]]
    exact woken_yes c y z v1 v2 lo w h1 h2 hc hlo ht
  | false =>
    rw [show wkS c y z=(c,z,true) by simp [wkS,ht]]
    exact woken_no c y z v1 v2 lo w h1 h2 hc hlo ht
set_option maxRecDepth 100000 in
set_option maxHeartbeats 2000000 in
theorem sendDone_any (c:Ch) (h:Ha) (v1 v2:Value) (lo:Nat) (w:World) (h1:OCells w lo v1 c.cells) (h2:OInts w lo v2 c.words) (hc0:0≤h.cell) (hc1:h.cell<c.cells.length) :
    Calls Try.prog 91 #[.agg (cvals c v1 v2),.agg (hvals h)] w fun r w'=>StepO w w' lo v1 v2 ((stateC c h.cell 7,resting 1 0,true)) r:=by
  obtain ⟨i,hci⟩:∃ i:Nat,h.cell=(i:Int):=⟨h.cell.toNat,by omega⟩
  have hi:i<c.cells.length:=by omega
  have hi0:(0:Int)≤(i:Int):=by omega
  have hi1:(i:Int)<(c.cells.length:Int):=by omega
  have hne:=h1.ne h2
  obtain ⟨a2,q2,rfl,_⟩:=h2.seg
  obtain ⟨g,q1,rfl,hlo1,hlt,hcell,hfr⟩:=h1.open1 hi
  have O1:=Lib.hid h1
  have O2:=Lib.hid h2
  have lg0:g<w.heap.size+1:=by omega
  have lg1:g<w.heap.size+1+1:=by omega
  have lg2:g<w.heap.size+1+1+1:=by omega
  have ng0:g≠w.heap.size:=by omega
  have ng1:g≠w.heap.size+1:=by omega
  have ng2:g≠w.heap.size+1+1:=by omega
  have ng3:g≠w.heap.size+1+1+1:=by omega
  have mg0:w.heap.size≠g:=by omega
  have mg1:w.heap.size+1≠g:=by omega
  have mg2:w.heap.size+1+1≠g:=by omega
  have mg3:w.heap.size+1+1+1≠g:=by omega
  have hx:Hid (cellAt c h.cell=c.cells.getD i ⟨0,0,0⟩):=by simp [cellAt,Hid,hci]
  have c0:=hcell 0 (by omega)
  have c1:=hcell 1 (by omega)
  have c2:=hcell 2 (by omega)
  simp only [C3.val,Nat.add_zero] at c0 c1 c2
  rw [show stateC c h.cell 7=stateC c i 7 by rw [hci]]
  have e1:=stateC_cells c i 7
  have P1:=fun W (o:OCells W lo (.slice (some ⟨g,0,none⟩) c.cells.length q1) c.cells)=>OCells.setS o hi 7
  rw [← e1] at P1
  clear hx hcell h1 h2 e1
  generalize c.cells.getD i ⟨0,0,0⟩=x at *
  have o1:=O1.out
  have o2:=O2.out
  go_enter Try.func91,Try.ntmps91
  have P2:=own_store (p:=⟨g,i*3,none⟩) o2 (hne g rfl) (.int .i64 7)
  go_wp2_with fail
  go_region_held3 (fun w'=>hp w' w.heap.size=some (.cells (cvals c (.slice (some ⟨g,0,none⟩) c.cells.length q1) (.slice a2 c.words.length q2)) 33)∧hp w' (w.heap.size+1)=some (.cells (hvals h) 36))
    (first|(simp [*,go_sem]))
    (first|(go_at_call 92;refine (resting_any _ _ _).mono ?_;rintro _ w1 ⟨rfl,hbw1⟩;have hGw1:Gr g w w1:=gT (by (repeat (first|with_reducible assumption|with_reducible exact gR _ _|with_reducible refine gA ?_|with_reducible refine gD ?_|with_reducible refine gS ?_ (.inl rfl)|((with_reducible refine gBx ?_ (.inr ?_));rotate_left;(focus ((try dsimp only);(try simp);(try omega))))|((with_reducible refine gS ?_ (.inr ?_));rotate_left;(focus ((try dsimp only);(try simp);(try omega))))))) (gOfB hbw1);have hsw1:=hbw1.size;(try (simp at hsw1));have zz:=hQ hbw1 (b:=w.heap.size);(first|(simp [go_sem,z_w,l_w,hlt,lg0,lg1,lg2] at zz)|(simp [go_sem,hlt,lg0,lg1,lg2] at zz));(try clear x_w f_w);(try clear z_w);have z_w:=zz;clear zz;(try clear l_w);obtain ⟨x_w,f_w,l_w⟩:=bO z_w;have zz:=hQ hbw1 (b:=w.heap.size+1);(first|(simp [go_sem,z_wp,l_wp,hlt,lg0,lg1,lg2] at zz)|(simp [go_sem,hlt,lg0,lg1,lg2] at zz));(try clear x_wp f_wp);(try clear z_wp);have z_wp:=zz;clear zz;(try clear l_wp);obtain ⟨x_wp,f_wp,l_wp⟩:=bO z_wp;have zz:=hQ hbw1 (b:=w.heap.size+1+1);(first|(simp [go_sem,z_wpp,l_wpp,hlt,lg0,lg1,lg2] at zz)|(simp [go_sem,hlt,lg0,lg1,lg2] at zz));(try clear x_wpp f_wpp);(try clear z_wpp);have z_wpp:=zz;clear zz;(try clear l_wpp);obtain ⟨x_wpp,f_wpp,l_wpp⟩:=bO z_wpp;have zz:=hQ hbw1 (b:=w.heap.size+1+1+1);(first|(simp [go_sem,z_wppp,l_wppp,hlt,lg0,lg1,lg2] at zz)|(simp [go_sem,hlt,lg0,lg1,lg2] at zz));(try clear x_wppp f_wppp);(try clear z_wppp);have z_wppp:=zz;clear zz;(try clear l_wppp);obtain ⟨x_wppp,f_wppp,l_wppp⟩:=bO z_wppp;have p1:OCells w1 lo (.slice (some ⟨g,0,none⟩) c.cells.length q1) (stateC c i 7).cells:=own_below (by exact zO (P1 _ o1) o1) hbw1;have p2:OInts w1 lo (.slice a2 c.words.length q2) c.words:=own_below (by exact zO P2 o2) hbw1))
  go_wp2
  refine bodyPost_ret (res_cct Try.results91 rfl (ldChan (stateC c i 7) (.slice (some ⟨g,0,none⟩) c.cells.length q1) (.slice a2 c.words.length q2) (by simp [go_sem, *] <;> rfl)) rfl (ldHand (resting 1 0) (by simp [go_sem, *] <;> first|rfl|simp [seenAs,anew,hci]))) rfl ⟨⟨_,_,rfl,?_,?_,fresh_refl _ _,fresh_refl _ _⟩,onl1 (show w.grownBy _ (some g) from (by (repeat (first|with_reducible assumption|with_reducible exact gR _ _|with_reducible refine gA ?_|with_reducible refine gD ?_|with_reducible refine gS ?_ (.inl rfl)|((with_reducible refine gBx ?_ (.inr ?_));rotate_left;(focus ((try dsimp only);(try simp);(try omega))))|((with_reducible refine gS ?_ (.inr ?_));rotate_left;(focus ((try dsimp only);(try simp);(try omega))))))))⟩
  · show OCells _ lo (.slice (some ⟨g,0,none⟩) c.cells.length q1) (stateC c i 7).cells
    exact zO p1 o1
  · show OInts _ lo (.slice a2 c.words.length q2) c.words
    exact zO p2 o2
end Go.Proofs.Ytajopaegmocnlaa
set_option linter.unusedSimpArgs false
set_option linter.unusedVariables false
namespace Go.Proofs.Ytajopaegmocnlaa
open Go.RowKit
set_option maxHeartbeats 400000 in
theorem laid_any (s e t m:Int) (w:World):Calls Try.prog 101 #[.agg #[.int .i64 s,.int .i64 e,.int .i64 t],.int .i64 m] w fun r w'=>r=.returned (.agg #[.int .i64 s,.int .i64 (laidF s e t m),.int .i64 t])∧Below w.heap.size w w':=by
  go_enter Try.func101,Try.ntmps101
  go_wp2_with (first|(go_at_call 97;refine (cellOk_any _ _ _ _).mono ?_;rintro _ w1 ⟨rfl,hbw1⟩;have hBw1:Below w.heap.size w w1:=bT (by exact zB) hbw1;have hsw1:=hbw1.size;(try (simp at hsw1));have:=fun o=>hbw1.cell (p:=⟨w.heap.size,o,none⟩) (by ((try simp);(try omega)));have:=fun o=>hbw1.frozen (p:=⟨w.heap.size,o,none⟩) (by ((try simp);(try omega)));have:=fun o=>hbw1.cell (p:=⟨w.heap.size+1,o,none⟩) (by ((try simp);(try omega)));have:=fun o=>hbw1.frozen (p:=⟨w.heap.size+1,o,none⟩) (by ((try simp);(try omega)));have:w.heap.size<w1.heap.size:=(by omega);have:w.heap.size≤w1.heap.size:=(by omega);have:w.heap.size≤w1.heap.size+1:=(by omega);have:w.heap.size+1<w1.heap.size:=(by omega);have:w.heap.size+1≤w1.heap.size:=(by omega);have:w.heap.size+1≤w1.heap.size+1:=(by omega))|(go_at_call 76;refine (inRange_any _ _ _).mono ?_;rintro _ _ ⟨rfl,rfl⟩))
  · rw [laidF_2 ‹_›];exact bodyPost_ret (v:=.agg #[.int .i64 s,.int .i64 e,.int .i64 t]) (by simp [results,Try.results101,go_sem, *]) rfl ⟨rfl,by exact zB⟩
  · rw [laidF_3 ‹_› ‹_›];exact bodyPost_ret (v:=.agg #[.int .i64 s,.int .i64 m,.int .i64 t]) (by simp [results,Try.results101,go_sem, *]) rfl ⟨rfl,by exact zB⟩
  · rw [laidF_1 ‹_›];exact bodyPost_ret (v:=.agg #[.int .i64 s,.int .i64 e,.int .i64 t]) (by simp [results,Try.results101,go_sem, *]) rfl ⟨rfl,by exact zB⟩
set_option maxHeartbeats 400000 in
theorem turned_any (s e t f n v:Int) (w:World):Calls Try.prog 105 #[.agg #[.int .i64 s,.int .i64 e,.int .i64 t],.int .i64 f,.int .i64 n,.int .i64 v] w fun r w'=>TurnR s e t f n v r∧Below w.heap.size w w':=by
  by_cases hsf:s=f
  · subst hsf
    go_enter Try.func105,Try.ntmps105
    go_wp2_with (go_at_call 97;refine (cellOk_any _ _ _ _).mono ?_;rintro _ w1 ⟨rfl,hbw1⟩;have hBw1:Below w.heap.size w w1:=bT (by exact zB) hbw1;have hsw1:=hbw1.size;(try (simp at hsw1));have:=fun o=>hbw1.cell (p:=⟨w.heap.size,o,none⟩) (by ((try simp);(try omega)));have:=fun o=>hbw1.frozen (p:=⟨w.heap.size,o,none⟩) (by ((try simp);(try omega)));have:=fun o=>hbw1.cell (p:=⟨w.heap.size+1,o,none⟩) (by ((try simp);(try omega)));have:=fun o=>hbw1.frozen (p:=⟨w.heap.size+1,o,none⟩) (by ((try simp);(try omega)));have:=fun o=>hbw1.cell (p:=⟨w.heap.size+1+1,o,none⟩) (by ((try simp);(try omega)));have:=fun o=>hbw1.frozen (p:=⟨w.heap.size+1+1,o,none⟩) (by ((try simp);(try omega)));have:w.heap.size<w1.heap.size:=(by omega);have:w.heap.size≤w1.heap.size:=(by omega);have:w.heap.size≤w1.heap.size+1:=(by omega);have:w.heap.size+1<w1.heap.size:=(by omega);have:w.heap.size+1≤w1.heap.size:=(by omega);have:w.heap.size+1≤w1.heap.size+1:=(by omega);have:w.heap.size+1+1<w1.heap.size:=(by omega);have:w.heap.size+1+1≤w1.heap.size:=(by omega);have:w.heap.size+1+1≤w1.heap.size+1:=(by omega))
    all_goals first
      | (refine bodyPost_ret (v:=.tuple #[.agg #[.int .i64 n,.int .i64 e,.int .i64 v],.bool true]) (by simp [results,Try.results105,go_sem, *]) rfl ⟨turnR_yes (turn_4 ‹_› ‹_›),by exact zB⟩)
      | (refine bodyPost_ret (v:=.tuple #[.agg #[.int .i64 s,.int .i64 e,.int .i64 t],.bool false]) (by simp [results,Try.results105,go_sem, *]) rfl ⟨turnR_no (by first|exact turn_2 ‹_›|exact turn_3 ‹_›),by exact zB⟩)
  · go_enter Try.func105,Try.ntmps105
    go_wp2_with (go_at_call 97;refine (cellOk_any _ _ _ _).mono ?_;rintro _ w1 ⟨rfl,hbw1⟩;have hBw1:Below w.heap.size w w1:=bT (by exact zB) hbw1;have hsw1:=hbw1.size;(try (simp at hsw1));have:=fun o=>hbw1.cell (p:=⟨w.heap.size,o,none⟩) (by ((try simp);(try omega)));have:=fun o=>hbw1.frozen (p:=⟨w.heap.size,o,none⟩) (by ((try simp);(try omega)));have:=fun o=>hbw1.cell (p:=⟨w.heap.size+1,o,none⟩) (by ((try simp);(try omega)));have:=fun o=>hbw1.frozen (p:=⟨w.heap.size+1,o,none⟩) (by ((try simp);(try omega)));have:=fun o=>hbw1.cell (p:=⟨w.heap.size+1+1,o,none⟩) (by ((try simp);(try omega)));have:=fun o=>hbw1.frozen (p:=⟨w.heap.size+1+1,o,none⟩) (by ((try simp);(try omega)));have:w.heap.size<w1.heap.size:=(by omega);have:w.heap.size≤w1.heap.size:=(by omega);have:w.heap.size≤w1.heap.size+1:=(by omega);have:w.heap.size+1<w1.heap.size:=(by omega);have:w.heap.size+1≤w1.heap.size:=(by omega);have:w.heap.size+1≤w1.heap.size+1:=(by omega);have:w.heap.size+1+1<w1.heap.size:=(by omega);have:w.heap.size+1+1≤w1.heap.size:=(by omega);have:w.heap.size+1+1≤w1.heap.size+1:=(by omega))
    all_goals (refine bodyPost_ret (v:=.tuple #[.agg #[.int .i64 s,.int .i64 e,.int .i64 t],.bool false]) (by simp [results,Try.results105,go_sem, *]) rfl ⟨turnR_no (by first|exact turn_1 ‹_›|exact turn_2 ‹_›),by exact zB⟩)
end Go.Proofs.Ytajopaegmocnlaa
set_option linter.unusedSimpArgs false
set_option linter.unusedVariables false
namespace Go.Proofs.Ytajopaegmocnlaa
open Go.RowKit
set_option linter.unusedSimpArgs false
attribute [local simp] bx_size
attribute [local go_sem ↓] zeroHand zeroChan toLHand toLChan toVHand toVChan storeHand storeChan storeHandC storeChanC
set_option maxRecDepth 100000 in
set_option maxHeartbeats 2000000 in
theorem sendLay_any (c:Ch) (h:Ha) (v1 v2:Value) (lo:Nat) (w:World) (h1:OCells w lo v1 c.cells) (h2:OInts w lo v2 c.words) (hc0:0≤h.cell) (hc1:h.cell<c.cells.length) :
    Calls Try.prog 85 #[.agg (cvals c v1 v2),.agg (hvals h)] w fun r w'=>StepO w w' lo v1 v2 ((layC c h.cell h.elem,{ h with pos:=3 },true)) r:=by
  obtain ⟨i,hci⟩:∃ i:Nat,h.cell=(i:Int):=⟨h.cell.toNat,by omega⟩
  have hi:i<c.cells.length:=by omega
  have hi0:(0:Int)≤(i:Int):=by omega
  have hi1:(i:Int)<(c.cells.length:Int):=by omega
  have hne:=h1.ne h2
  obtain ⟨a2,q2,rfl,_⟩:=h2.seg
  obtain ⟨g,q1,rfl,hlo1,hlt,hcell,hfr⟩:=h1.open1 hi
  have O1:=Lib.hid h1
  have O2:=Lib.hid h2
  have lg0:g<w.heap.size+1:=by omega
  have lg1:g<w.heap.size+1+1:=by omega
  have lg2:g<w.heap.size+1+1+1:=by omega
  have ng0:g≠w.heap.size:=by omega
  have ng1:g≠w.heap.size+1:=by omega
  have ng2:g≠w.heap.size+1+1:=by omega
  have ng3:g≠w.heap.size+1+1+1:=by omega
  have mg0:w.heap.size≠g:=by omega
  have mg1:w.heap.size+1≠g:=by omega
  have mg2:w.heap.size+1+1≠g:=by omega
  have mg3:w.heap.size+1+1+1≠g:=by omega
  have hx:Hid (cellAt c h.cell=c.cells.getD i ⟨0,0,0⟩):=by simp [cellAt,Hid,hci]
  have c0:=hcell 0 (by omega)
  have c1:=hcell 1 (by omega)
  have c2:=hcell 2 (by omega)
  simp only [C3.val,Nat.add_zero] at c0 c1 c2
  rw [show layC c h.cell h.elem=layC c i h.elem by rw [hci]]
  have hlc:Hid ((layC c i h.elem).cells=c.cells.set i ⟨(c.cells.getD i ⟨0,0,0⟩).s,laidF (c.cells.getD i ⟨0,0,0⟩).s (c.cells.getD i ⟨0,0,0⟩).e (c.cells.getD i ⟨0,0,0⟩).t h.elem,(c.cells.getD i ⟨0,0,0⟩).t⟩):=by simp [layC,setAt,cellAt,Hid]
  clear hx hcell h1 h2
  generalize c.cells.getD i ⟨0,0,0⟩=x at *
  obtain ⟨s,e,t⟩:=x
  simp only at c0 c1 c2
  have o1:=O1.out
  have o2:=O2.out
  go_enter Try.func85,Try.ntmps85
  go_wp2_with fail
  refine wp_region_held_drew (S:=fun w'=>w'.cell? ⟨w.heap.size,4,none⟩=some (.slice (some ⟨g,0,none⟩) c.cells.length q1)∧w'.cell? ⟨w.heap.size+1,3,none⟩=some (.int .i64 i)∧w'.cell? ⟨w.heap.size+1,2,none⟩=some (.int .i64 h.elem)) (by kernel_rfl) (by simp [*,go_sem]) (fun hS0=>?_)
  refine wpAnyH_take (i:=0) (oi:=⟨some 7,_,_,_,_,_⟩) (v:=?_) rfl (by kernel_rfl) (by kernel_rfl) (by kernel_rfl) (fun _ _ _ h=>h) (Or.inl ⟨by rfl,?_⟩) (by assumption) ?_;rotate_left;(focus (intro w' hSw;(try dsimp only at hSw);go_simp;(try with_reducible rfl)));(try rotate_left);(try simp only [Act.put,List.setIfInBounds_toArray,List.set_cons_zero,List.set_cons_succ])
  refine wpAnyH_take (i:=1) (oi:=⟨some 8,_,_,_,_,_⟩) (v:=?_) rfl (by kernel_rfl) (by kernel_rfl) (by kernel_rfl) (fun _ _ _ h=>h) (Or.inl ⟨by rfl,?_⟩) (by assumption) ?_;rotate_left;(focus (intro w' hSw;(try dsimp only at hSw);go_simp;(try with_reducible rfl)));(try rotate_left);(try simp only [Act.put,List.setIfInBounds_toArray,List.set_cons_zero,List.set_cons_succ])
  refine wpAnyH_take (i:=2) (oi:=⟨some 9,_,_,_,_,_⟩) (v:=?_) rfl (by kernel_rfl) (by kernel_rfl) (by kernel_rfl) (fun _ _ _ h=>h) (Or.inl ⟨by rfl,?_⟩) (by assumption) ?_;rotate_left;(focus (intro w' hSw;(try dsimp only at hSw);go_simp;(try with_reducible rfl)));(try rotate_left);(try simp only [Act.put,List.setIfInBounds_toArray,List.set_cons_zero,List.set_cons_succ])
  refine wpAnyH_take (i:=3) (oi:=⟨some 10,_,_,_,_,_⟩) (v:=?_) rfl (by kernel_rfl) (by kernel_rfl) (by kernel_rfl) (fun _ _ _ h=>h) (Or.inl ⟨by rfl,?_⟩) (by assumption) ?_;rotate_left;(focus (intro w' hSw;(try dsimp only at hSw);go_simp;(try with_reducible rfl)));(try rotate_left);(try simp only [Act.put,List.setIfInBounds_toArray,List.set_cons_zero,List.set_cons_succ])
  refine wpAnyH_take (i:=4) (oi:=⟨some 11,_,_,_,_,_⟩) (v:=?_) rfl (by kernel_rfl) (by kernel_rfl) (by kernel_rfl) (fun _ _ _ h=>h) (Or.inl ⟨by rfl,?_⟩) (by assumption) ?_;rotate_left;(focus (intro w' hSw;(try dsimp only at hSw);go_simp;(try with_reducible rfl)));(try rotate_left);(try simp only [Act.put,List.setIfInBounds_toArray,List.set_cons_zero,List.set_cons_succ])
  refine wpAnyH_take (i:=5) (oi:=⟨some 12,_,_,_,_,_⟩) (v:=?_) rfl (by kernel_rfl) (by kernel_rfl) (by kernel_rfl) (fun _ _ _ h=>h) (Or.inl ⟨by rfl,?_⟩) (by assumption) ?_;rotate_left;(focus (intro w' hSw;(try dsimp only at hSw);go_simp;(try with_reducible rfl)));(try rotate_left);(try simp only [Act.put,List.setIfInBounds_toArray,List.set_cons_zero,List.set_cons_succ])
  refine wpAnyH_take (i:=6) (oi:=⟨some 13,_,_,_,_,_⟩) (v:=?_) rfl (by kernel_rfl) (by kernel_rfl) (by kernel_rfl) (fun _ _ _ h=>h) (Or.inl ⟨by rfl,?_⟩) (by assumption) ?_;rotate_left;(focus (intro w' hSw;(try dsimp only at hSw);go_simp;(try with_reducible rfl)));(try rotate_left);(try simp only [Act.put,List.setIfInBounds_toArray,List.set_cons_zero,List.set_cons_succ])
  refine wpAnyH_take (i:=7) (oi:=⟨some 14,_,_,_,_,_⟩) (v:=?_) rfl (by kernel_rfl) (by kernel_rfl) (by kernel_rfl) (fun _ _ _ h=>h) (Or.inl ⟨by rfl,?_⟩) (by assumption) ?_;rotate_left;(focus (intro w' hSw;(try dsimp only at hSw);go_simp;(try with_reducible rfl)));(try rotate_left);(try simp only [Act.put,List.setIfInBounds_toArray,List.set_cons_zero,List.set_cons_succ])
  refine wpAnyH_take (i:=8) (oi:=⟨some 15,_,_,_,_,_⟩) (v:=?_) rfl (by kernel_rfl) (by kernel_rfl) (by kernel_rfl) (fun _ _ _ h=>h) (Or.inl ⟨by rfl,?_⟩) (by assumption) ?_;rotate_left;(focus (intro w' hSw;(try dsimp only at hSw);go_simp;(try with_reducible rfl)));(try rotate_left);(try simp only [Act.put,List.setIfInBounds_toArray,List.set_cons_zero,List.set_cons_succ])
  refine wpAnyH_take (i:=10) (oi:=⟨some 17,_,_,_,_,_⟩) (v:=?_) rfl (by kernel_rfl) (by kernel_rfl) (by kernel_rfl) (fun _ _ _ h=>h) (Or.inl ⟨by rfl,?_⟩) (by assumption) ?_;rotate_left;(focus (intro w' hSw;(try dsimp only at hSw);go_simp;(try with_reducible rfl)));(try rotate_left);(try simp only [Act.put,List.setIfInBounds_toArray,List.set_cons_zero,List.set_cons_succ])
  refine wpAnyH_take (i:=11) (oi:=⟨some 18,_,_,_,_,_⟩) (v:=?_) rfl (by kernel_rfl) (by kernel_rfl) (by kernel_rfl) (fun _ _ _ h=>h) (Or.inl ⟨by rfl,?_⟩) (by assumption) ?_;rotate_left;(focus (intro w' hSw;(try dsimp only at hSw);go_simp;(try with_reducible rfl)));(try rotate_left);(try simp only [Act.put,List.setIfInBounds_toArray,List.set_cons_zero,List.set_cons_succ])
  refine wpAnyH_take (i:=12) (oi:=⟨some 19,_,_,_,_,_⟩) (v:=?_) rfl (by kernel_rfl) (by kernel_rfl) (by kernel_rfl) (fun _ _ _ h=>h) (Or.inl ⟨by rfl,?_⟩) (by assumption) ?_;rotate_left;(focus (intro w' hSw;(try dsimp only at hSw);go_simp;(try with_reducible rfl)));(try rotate_left);(try simp only [Act.put,List.setIfInBounds_toArray,List.set_cons_zero,List.set_cons_succ])
  refine wpAnyH_ready (rs:=[9]) (by kernel_rfl) (by simp) ?_
  refine AllReadyH.cons (o:=⟨some 16,_,_,_,_,_⟩) rfl (fun K hK=>?_) AllReadyH.nil
  go_simp
  refine hK.out _ _ hS0 (fun hS9=>?_)
  clear hK
  (try simp only [Act.put,List.setIfInBounds_toArray,List.set_cons_zero,List.set_cons_succ])
  refine wpAnyH_ready (rs:=[13]) (by kernel_rfl) (by simp) ?_
  refine AllReadyH.cons (o:=⟨some 20,_,_,_,_,_⟩) rfl (fun K hK=>?_) AllReadyH.nil
  go_simp
  go_at_call 101
  refine (laid_any s e t h.elem _).mono ?_
  rintro _ w4 ⟨rfl,hbw4⟩
  have hCw4:Below w.heap.size w w4:=bT (by exact zB) hbw4
  have y0:=(hCw4.cell (p:=⟨g,i*3,none⟩) hlt).trans c0
  have y1:=(hCw4.cell (p:=⟨g,i*3+1,none⟩) hlt).trans c1
  have y2:=(hCw4.cell (p:=⟨g,i*3+2,none⟩) hlt).trans c2
  have yf:=fun o=>(hCw4.frozen (p:=⟨g,o,none⟩) hlt).trans (hfr o)
  have hsw4:=hbw4.size;(try simp at hsw4);have zz:=q4 hbw4 (b:=w.heap.size);(try simp [go_sem] at zz);(try clear z_wppp x_wppp f_wppp l_wppp);(try clear z_wpp x_wpp f_wpp l_wpp);(try clear z_wp x_wp f_wp l_wp);(try clear z_w x_w f_w l_w);obtain ⟨z_wppp,z_wpp,z_wp,z_w⟩:=zz;obtain ⟨x_wppp,f_wppp,l_wppp⟩:=bO z_wppp;obtain ⟨x_wpp,f_wpp,l_wpp⟩:=bO z_wpp;obtain ⟨x_wp,f_wp,l_wp⟩:=bO z_wp;obtain ⟨x_w,f_w,l_w⟩:=bO z_w;clear hbw4
  refine hK.out _ _ (by simp [*,go_sem]) (fun hS4=>?_)
  clear hK
  (try simp only [Act.put,List.setIfInBounds_toArray,List.set_cons_zero,List.set_cons_succ])
  refine wpAnyH_take (i:=14) (oi:=⟨some 21,_,_,_,_,_⟩) (v:=?_) rfl (by kernel_rfl) (by kernel_rfl) (by kernel_rfl) (fun _ _ _ h=>h) (Or.inl ⟨by rfl,?_⟩) (by assumption) ?_;rotate_left;(focus (intro w' hSw;(try dsimp only at hSw);go_simp;(try with_reducible rfl)));(try rotate_left);(try simp only [Act.put,List.setIfInBounds_toArray,List.set_cons_zero,List.set_cons_succ])
  refine wpAnyH_ready (rs:=[15]) (by kernel_rfl) (by simp) ?_
  refine AllReadyH.cons (o:=⟨none,_,_,_,_,_⟩) rfl (fun K hK=>?_) AllReadyH.nil
  go_simp
  refine hK.out _ _ (by simp [*,go_sem]) (fun hS5=>?_)
  clear hK
  (try simp only [Act.put,List.setIfInBounds_toArray,List.set_cons_zero,List.set_cons_succ])
  refine wpAnyH_done (by kernel_rfl) ?_ _
  obtain ⟨w5,hw5⟩:∃ w5,w5=((w4.setCell ⟨g,i*3,none⟩ (.int .i64 s)).setCell ⟨g,i*3+1,none⟩ (.int .i64 (laidF s e t h.elem))).setCell ⟨g,i*3+2,none⟩ (.int .i64 t):=⟨_,rfl⟩
  have r1:OCells w5 lo (.slice (some ⟨g,0,none⟩) c.cells.length q1) (layC c i h.elem).cells:=by rw [hw5];rw [hlc.out];simpa using OCells.set (own_below o1 hCw4) hi ⟨s,(laidF s e t h.elem),t⟩
  have r2:OInts w5 lo (.slice a2 c.words.length q2) c.words:=by rw [hw5];exact own_store (own_store (own_store (own_below o2 hCw4) (hne g rfl) _) (hne g rfl) _) (hne g rfl) _
  have hgw5:w4.grownBy w5 (some g):=by rw [hw5];exact gS (gS (gS (gR _ _) (.inl rfl)) (.inl rfl)) (.inl rfl)
  rw [← hw5]
  clear hw5
  have sg0:some w.heap.size≠some g:=by simp;omega
  have sg1:some (w.heap.size+1)≠some g:=by simp;omega
  have sg2:some (w.heap.size+1+1)≠some g:=by simp;omega
  have sg3:some (w.heap.size+1+1+1)≠some g:=by simp;omega
  have hsw5:=hgw5.size;(try (simp at hsw5));have zz:=And.intro (grHp hgw5 (b:=w.heap.size+1+1+1) (by (try simp) <;> omega) (by assumption)) <| And.intro (grHp hgw5 (b:=w.heap.size+1+1) (by (try simp) <;> omega) (by assumption)) <| And.intro (grHp hgw5 (b:=w.heap.size+1) (by (try simp) <;> omega) (by assumption)) <| grHp hgw5 (b:=w.heap.size) (by (try simp) <;> omega) (by assumption);(first|simp [go_sem,z_wppp,z_wpp,z_wp,z_w,l_w,l_wp,l_wpp,l_wppp] at zz|simp [go_sem] at zz|skip);(try clear z_wppp x_wppp f_wppp l_wppp);(try clear z_wpp x_wpp f_wpp l_wpp);(try clear z_wp x_wp f_wp l_wp);(try clear z_w x_w f_w l_w);obtain ⟨z_wppp,z_wpp,z_wp,z_w⟩:=zz;obtain ⟨x_wppp,f_wppp,l_wppp⟩:=bO z_wppp;obtain ⟨x_wpp,f_wpp,l_wpp⟩:=bO z_wpp;obtain ⟨x_wp,f_wp,l_wp⟩:=bO z_wp;obtain ⟨x_w,f_w,l_w⟩:=bO z_w
  have hG5:Gr g w w5:=gT (gOfB hCw4) hgw5
  clear hgw5
  clear y0 y1 y2 yf hS0 hS9 hS4 hS5
  go_wp2_with fail
  go_region_held3 (fun w'=>hp w' w.heap.size=some (.cells (cvals c (.slice (some ⟨g,0,none⟩) c.cells.length q1) (.slice a2 c.words.length q2)) 33)∧hp w' (w.heap.size+1)=some (.cells (hvals h) 36))
    (first|(simp [*,go_sem]))
    (first|(go_at_call 66;refine (moved_any _ _ _).mono ?_;rintro _ w6 ⟨rfl,hbw6⟩;have hGw6:Gr g w w6:=gT (by (repeat (first|with_reducible assumption|with_reducible exact gR _ _|with_reducible refine gA ?_|with_reducible refine gD ?_|with_reducible refine gS ?_ (.inl rfl)|((with_reducible refine gBx ?_ (.inr ?_));rotate_left;(focus ((try dsimp only);(try simp);(try omega))))|((with_reducible refine gS ?_ (.inr ?_));rotate_left;(focus ((try dsimp only);(try simp);(try omega))))))) (gOfB hbw6);have hsw6:=hbw6.size;(try (simp at hsw6));have zz:=hQ hbw6 (b:=w.heap.size);(first|(simp [go_sem,z_w,l_w] at zz)|(simp [go_sem] at zz));(try clear x_w f_w);(try clear z_w);have z_w:=zz;clear zz;(try clear l_w);obtain ⟨x_w,f_w,l_w⟩:=bO z_w;have zz:=hQ hbw6 (b:=w.heap.size+1);(first|(simp [go_sem,z_wp,l_wp] at zz)|(simp [go_sem] at zz));(try clear x_wp f_wp);(try clear z_wp);have z_wp:=zz;clear zz;(try clear l_wp);obtain ⟨x_wp,f_wp,l_wp⟩:=bO z_wp;have zz:=hQ hbw6 (b:=w.heap.size+1+1);(first|(simp [go_sem,z_wpp,l_wpp] at zz)|(simp [go_sem] at zz));(try clear x_wpp f_wpp);(try clear z_wpp);have z_wpp:=zz;clear zz;(try clear l_wpp);obtain ⟨x_wpp,f_wpp,l_wpp⟩:=bO z_wpp;have zz:=hQ hbw6 (b:=w.heap.size+1+1+1);(first|(simp [go_sem,z_wppp,l_wppp] at zz)|(simp [go_sem] at zz));(try clear x_wppp f_wppp);(try clear z_wppp);have z_wppp:=zz;clear zz;(try clear l_wppp);obtain ⟨x_wppp,f_wppp,l_wppp⟩:=bO z_wppp;have p1:OCells w6 lo (.slice (some ⟨g,0,none⟩) c.cells.length q1) (layC c i h.elem).cells:=own_below (by exact zO r1 o1) hbw6;have p2:OInts w6 lo (.slice a2 c.words.length q2) c.words:=own_below (by exact zO r2 o2) hbw6))
  go_wp2
  refine bodyPost_ret (res_cct Try.results85 rfl (ldChan (layC c i h.elem) (.slice (some ⟨g,0,none⟩) c.cells.length q1) (.slice a2 c.words.length q2) (by simp [go_sem, *] <;> rfl)) rfl (ldHand { h with pos:=3 } (by simp [go_sem, *] <;> first|rfl|simp [seenAs,anew,hci]))) rfl ⟨⟨_,_,rfl,?_,?_,fresh_refl _ _,fresh_refl _ _⟩,onl1 (show w.grownBy _ (some g) from (by (repeat (first|with_reducible assumption|with_reducible exact gR _ _|with_reducible refine gA ?_|with_reducible refine gD ?_|with_reducible refine gS ?_ (.inl rfl)|((with_reducible refine gBx ?_ (.inr ?_));rotate_left;(focus ((try dsimp only);(try simp);(try omega))))|((with_reducible refine gS ?_ (.inr ?_));rotate_left;(focus ((try dsimp only);(try simp);(try omega))))))))⟩
  · show OCells _ lo (.slice (some ⟨g,0,none⟩) c.cells.length q1) (layC c i h.elem).cells
    exact zO p1 o1
  · show OInts _ lo (.slice a2 c.words.length q2) c.words
    exact zO p2 o2
set_option maxRecDepth 100000 in
set_option maxHeartbeats 2000000 in
theorem sendKeep_yes (c:Ch) (h:Ha) (v1 v2:Value) (lo:Nat) (w:World) (h1:OCells w lo v1 c.cells) (h2:OInts w lo v2 c.words) (hc0:0≤h.cell) (hc1:h.cell<c.cells.length) (ht:turnCB c h.cell h.seen 2 0=true) :
    Calls Try.prog 102 #[.agg (cvals c v1 v2),.agg (hvals h)] w fun r w'=>StepO w w' lo v1 v2 ((turnC c h.cell h.seen 2 0,resting 1 0,true)) r:=by
  obtain ⟨i,hci⟩:∃ i:Nat,h.cell=(i:Int):=⟨h.cell.toNat,by omega⟩
  have hi:i<c.cells.length:=by omega
  have hi0:(0:Int)≤(i:Int):=by omega
  have hi1:(i:Int)<(c.cells.length:Int):=by omega
  have hne:=h1.ne h2
  obtain ⟨a2,q2,rfl,_⟩:=h2.seg
  obtain ⟨g,q1,rfl,hlo1,hlt,hcell,hfr⟩:=h1.open1 hi
  have O1:=Lib.hid h1
  have O2:=Lib.hid h2
  have lg0:g<w.heap.size+1:=by omega
  have lg1:g<w.heap.size+1+1:=by omega
  have lg2:g<w.heap.size+1+1+1:=by omega
  have ng0:g≠w.heap.size:=by omega
  have ng1:g≠w.heap.size+1:=by omega
  have ng2:g≠w.heap.size+1+1:=by omega
  have ng3:g≠w.heap.size+1+1+1:=by omega
  have mg0:w.heap.size≠g:=by omega
  have mg1:w.heap.size+1≠g:=by omega
  have mg2:w.heap.size+1+1≠g:=by omega
  have mg3:w.heap.size+1+1+1≠g:=by omega
  have hx:Hid (cellAt c h.cell=c.cells.getD i ⟨0,0,0⟩):=by simp [cellAt,Hid,hci]
  have c0:=hcell 0 (by omega)
  have c1:=hcell 1 (by omega)
  have c2:=hcell 2 (by omega)
  simp only [C3.val,Nat.add_zero] at c0 c1 c2
  rw [show turnC c h.cell h.seen 2 0=turnC c i h.seen 2 0 by rw [hci]]
  rw [hci,turnCB_at] at ht
  have hlc:Hid ((turnC c i h.seen 2 0).cells=c.cells.set i (turnX (c.cells.getD i ⟨0,0,0⟩) h.seen 2 0)):=turnC_cells c i h.seen 2 0
  clear hx hcell h1 h2
  generalize c.cells.getD i ⟨0,0,0⟩=x at *
  obtain ⟨s,e,t⟩:=x
  simp only at c0 c1 c2
  have ht2:turnB s e t h.seen 2 0=true:=ht
  have K:∀ W,Calls Try.prog 105 #[.agg #[.int .i64 s,.int .i64 e,.int .i64 t],.int .i64 h.seen,.int .i64 2,.int .i64 0] W fun r w'=>r=.returned (.tuple #[.agg #[.int .i64 2,.int .i64 e,.int .i64 0],.bool true])∧Below W.heap.size W w':=fun W=>by
    have:=turned_any s e t h.seen 2 0 W
    unfold TurnR at this
    simpa [turnS,turnW,ht2] using this
  clear ht2
  have hlx:Hid ((turnC c i h.seen 2 0).cells=c.cells.set i ⟨2,e,0⟩):=by
    have ht2:turnB s e t h.seen 2 0=true:=ht
    rw [hlc.out]
    simp [Hid,turnX,turnS,turnW,ht2]
  clear hlc ht
  have o1:=O1.out
  have o2:=O2.out
  go_enter Try.func102,Try.ntmps102
  go_upto_region 1 with fail
  go_cut [7,8] (fun sb sk wx=>∃ gb:Nat,sb=.pointer (some ⟨gb,0,none⟩)∧sk=.bool true∧hp wx gb=some (.cells #[.int .i64 2,.int .i64 e,.int .i64 0] 52)∧hp wx w.heap.size=some (.cells (cvals c (.slice (some ⟨g,0,none⟩) c.cells.length q1) (.slice a2 c.words.length q2)) 33)∧hp wx (w.heap.size+1)=some (.cells (hvals h) 36)∧hp wx (w.heap.size+1+1)=some (.cells (cvals Ch.zero (.slice none 0 0) (.slice none 0 0)) 33)∧hp wx (w.heap.size+1+1+1)=some (.cells (hvals Ha.zero) 36)∧Below w.heap.size w wx)
  case first =>
    go_region_held3 (fun w'=>w'.cell? ⟨w.heap.size,4,none⟩=some (.slice (some ⟨g,0,none⟩) c.cells.length q1)∧w'.cell? ⟨w.heap.size+1,3,none⟩=some (.int .i64 i)∧w'.cell? ⟨w.heap.size+1,4,none⟩=some (.int .i64 h.seen)∧w'.cell? ⟨g,i*3,none⟩=some (.int .i64 s)∧w'.cell? ⟨g,i*3+1,none⟩=some (.int .i64 e)∧w'.cell? ⟨g,i*3+2,none⟩=some (.int .i64 t))
      (first|(simp [*,go_sem]))
      (first|(go_at_call 105;refine (K _).mono ?_;rintro _ w4 ⟨rfl,hbw4⟩;have hBw4:Below w.heap.size w w4:=bT (by exact zB) hbw4;have hsw4:=hbw4.size;(try (simp at hsw4));have zz:=hQ hbw4 (b:=w.heap.size);(first|(simp [go_sem,z_w,l_w] at zz)|(simp [go_sem] at zz));(try clear x_w f_w);(try clear z_w);have z_w:=zz;clear zz;(try clear l_w);obtain ⟨x_w,f_w,l_w⟩:=bO z_w;have zz:=hQ hbw4 (b:=w.heap.size+1);(first|(simp [go_sem,z_wp,l_wp] at zz)|(simp [go_sem] at zz));(try clear x_wp f_wp);(try clear z_wp);have z_wp:=zz;clear zz;(try clear l_wp);obtain ⟨x_wp,f_wp,l_wp⟩:=bO z_wp;have zz:=hQ hbw4 (b:=w.heap.size+1+1);(first|(simp [go_sem,z_wpp,l_wpp] at zz)|(simp [go_sem] at zz));(try clear x_wpp f_wpp);(try clear z_wpp);have z_wpp:=zz;clear zz;(try clear l_wpp);obtain ⟨x_wpp,f_wpp,l_wpp⟩:=bO z_wpp;have zz:=hQ hbw4 (b:=w.heap.size+1+1+1);(first|(simp [go_sem,z_wppp,l_wppp] at zz)|(simp [go_sem] at zz));(try clear x_wppp f_wppp);(try clear z_wppp);have z_wppp:=zz;clear zz;(try clear l_wppp);obtain ⟨x_wppp,f_wppp,l_wppp⟩:=bO z_wppp;have t0w4:=hpB hbw4 (b:=w.heap.size+1+1+1+1);(try simp [go_sem] at t0w4);(try have n0w4:=(bO t0w4).2.2);have kww4:w.heap.size<w4.heap.size:=(by omega);have qww4:w.heap.size<w4.heap.size+1:=(by omega);have kwpw4:w.heap.size+1<w4.heap.size:=(by omega);have qwpw4:w.heap.size+1<w4.heap.size+1:=(by omega);have kwppw4:w.heap.size+1+1<w4.heap.size:=(by omega);have qwppw4:w.heap.size+1+1<w4.heap.size+1:=(by omega);have kwpppw4:w.heap.size+1+1+1<w4.heap.size:=(by omega);have qwpppw4:w.heap.size+1+1+1<w4.heap.size+1:=(by omega);have y0:=(hBw4.cell (p:=⟨g,i*3,none⟩) hlt).trans c0;have y1:=(hBw4.cell (p:=⟨g,i*3+1,none⟩) hlt).trans c1;have y2:=(hBw4.cell (p:=⟨g,i*3+2,none⟩) hlt).trans c2;have yl:g<w4.heap.size:=(by omega);have yn:g≠w4.heap.size:=(by omega);have yn2:w4.heap.size≠g:=(by omega);(try (have xt:=(bO t0w4).1;have ft:=(bO t0w4).2.1))))
    all_goals (go_wp2_with fail)
    all_goals go_meet
    all_goals exact ⟨_,rfl,rfl,by simp [go_sem, *],by simp [go_sem, *],by simp [go_sem, *],by simp [go_sem, *],by simp [go_sem, *],by exact zB⟩
  case rest =>
    obtain ⟨gb,rfl,rfl,z_b,z_w,z_wp,z_wpp,z_wppp,hCw4⟩:=hcut
    obtain ⟨w4,hw⟩:∃ x,x=wc:=⟨_,rfl⟩
    rw [← hw] at z_b z_w z_wp z_wpp z_wppp hCw4 ⊢
    clear hw
    obtain ⟨x_b,f_b,l_b⟩:=bO z_b
    obtain ⟨x_w,f_w,l_w⟩:=bO z_w
    obtain ⟨x_wp,f_wp,l_wp⟩:=bO z_wp
    obtain ⟨x_wpp,f_wpp,l_wpp⟩:=bO z_wpp
    obtain ⟨x_wppp,f_wppp,l_wppp⟩:=bO z_wppp
    have y0:=(hCw4.cell (p:=⟨g,i*3,none⟩) hlt).trans c0
    have y1:=(hCw4.cell (p:=⟨g,i*3+1,none⟩) hlt).trans c1
    have y2:=(hCw4.cell (p:=⟨g,i*3+2,none⟩) hlt).trans c2
    have yf:=fun o=>(hCw4.frozen (p:=⟨g,o,none⟩) hlt).trans (hfr o)
    go_wp2_with fail
    obtain ⟨w5,hw5⟩:∃ w5,w5=((w4.setCell ⟨g,i*3,none⟩ (.int .i64 2)).setCell ⟨g,i*3+1,none⟩ (.int .i64 e)).setCell ⟨g,i*3+2,none⟩ (.int .i64 0):=⟨_,rfl⟩
    have r1:OCells w5 lo (.slice (some ⟨g,0,none⟩) c.cells.length q1) (turnC c i h.seen 2 0).cells:=by rw [hw5];rw [hlx.out];simpa using OCells.set (own_below o1 hCw4) hi ⟨2,e,0⟩
    have r2:OInts w5 lo (.slice a2 c.words.length q2) c.words:=by rw [hw5];exact own_store (own_store (own_store (own_below o2 hCw4) (hne g rfl) _) (hne g rfl) _) (hne g rfl) _
    have hgw5:w4.grownBy w5 (some g):=by rw [hw5];exact gS (gS (gS (gR _ _) (.inl rfl)) (.inl rfl)) (.inl rfl)
    rw [← hw5]
    clear hw5
    have sg0:some w.heap.size≠some g:=by simp;omega
    have sg1:some (w.heap.size+1)≠some g:=by simp;omega
    have sg2:some (w.heap.size+1+1)≠some g:=by simp;omega
    have sg3:some (w.heap.size+1+1+1)≠some g:=by simp;omega
    have hsw5:=hgw5.size;(try (simp at hsw5));have zz:=And.intro (grHp hgw5 (b:=w.heap.size+1+1+1) (by (try simp) <;> omega) (by assumption)) <| And.intro (grHp hgw5 (b:=w.heap.size+1+1) (by (try simp) <;> omega) (by assumption)) <| And.intro (grHp hgw5 (b:=w.heap.size+1) (by (try simp) <;> omega) (by assumption)) <| grHp hgw5 (b:=w.heap.size) (by (try simp) <;> omega) (by assumption);(first|simp [go_sem,z_wppp,z_wpp,z_wp,z_w,l_w,l_wp,l_wpp,l_wppp] at zz|simp [go_sem] at zz|skip);(try clear z_wppp x_wppp f_wppp l_wppp);(try clear z_wpp x_wpp f_wpp l_wpp);(try clear z_wp x_wp f_wp l_wp);(try clear z_w x_w f_w l_w);obtain ⟨z_wppp,z_wpp,z_wp,z_w⟩:=zz;obtain ⟨x_wppp,f_wppp,l_wppp⟩:=bO z_wppp;obtain ⟨x_wpp,f_wpp,l_wpp⟩:=bO z_wpp;obtain ⟨x_wp,f_wp,l_wp⟩:=bO z_wp;obtain ⟨x_w,f_w,l_w⟩:=bO z_w
    have hG5:Gr g w w5:=gT (gOfB hCw4) hgw5
    clear hgw5
    clear y0 y1 y2 yf x_b f_b l_b z_b
    go_region_held3 (fun w'=>hp w' w.heap.size=some (.cells (cvals c (.slice (some ⟨g,0,none⟩) c.cells.length q1) (.slice a2 c.words.length q2)) 33)∧hp w' (w.heap.size+1)=some (.cells (hvals h) 36))
      (first|(simp [*,go_sem]))
      (first|(go_at_call 92;refine (resting_any _ _ _).mono ?_;rintro _ w6 ⟨rfl,hbw6⟩;have hGw6:Gr g w w6:=gT (by (repeat (first|with_reducible assumption|with_reducible exact gR _ _|with_reducible refine gA ?_|with_reducible refine gD ?_|with_reducible refine gS ?_ (.inl rfl)|((with_reducible refine gBx ?_ (.inr ?_));rotate_left;(focus ((try dsimp only);(try simp);(try omega))))|((with_reducible refine gS ?_ (.inr ?_));rotate_left;(focus ((try dsimp only);(try simp);(try omega))))))) (gOfB hbw6);have hsw6:=hbw6.size;(try (simp at hsw6));have zz:=hQ hbw6 (b:=w.heap.size);(first|(simp [go_sem,z_w,l_w] at zz)|(simp [go_sem] at zz));(try clear x_w f_w);(try clear z_w);have z_w:=zz;clear zz;(try clear l_w);obtain ⟨x_w,f_w,l_w⟩:=bO z_w;have zz:=hQ hbw6 (b:=w.heap.size+1);(first|(simp [go_sem,z_wp,l_wp] at zz)|(simp [go_sem] at zz));(try clear x_wp f_wp);(try clear z_wp);have z_wp:=zz;clear zz;(try clear l_wp);obtain ⟨x_wp,f_wp,l_wp⟩:=bO z_wp;have zz:=hQ hbw6 (b:=w.heap.size+1+1);(first|(simp [go_sem,z_wpp,l_wpp] at zz)|(simp [go_sem] at zz));(try clear x_wpp f_wpp);(try clear z_wpp);have z_wpp:=zz;clear zz;(try clear l_wpp);obtain ⟨x_wpp,f_wpp,l_wpp⟩:=bO z_wpp;have zz:=hQ hbw6 (b:=w.heap.size+1+1+1);(first|(simp [go_sem,z_wppp,l_wppp] at zz)|(simp [go_sem] at zz));(try clear x_wppp f_wppp);(try clear z_wppp);have z_wppp:=zz;clear zz;(try clear l_wppp);obtain ⟨x_wppp,f_wppp,l_wppp⟩:=bO z_wppp;have p1:OCells w6 lo (.slice (some ⟨g,0,none⟩) c.cells.length q1) (turnC c i h.seen 2 0).cells:=own_below (by exact zO r1 o1) hbw6;have p2:OInts w6 lo (.slice a2 c.words.length q2) c.words:=own_below (by exact zO r2 o2) hbw6))
    go_wp2
    refine bodyPost_ret (res_cct Try.results102 rfl (ldChan (turnC c i h.seen 2 0) (.slice (some ⟨g,0,none⟩) c.cells.length q1) (.slice a2 c.words.length q2) (by simp [go_sem, *] <;> rfl)) rfl (ldHand (resting 1 0) (by simp [go_sem, *] <;> first|rfl|simp [seenAs,anew,hci]))) rfl ⟨⟨_,_,rfl,?_,?_,fresh_refl _ _,fresh_refl _ _⟩,onl1 (show w.grownBy _ (some g) from (by (repeat (first|with_reducible assumption|with_reducible exact gR _ _|with_reducible refine gA ?_|with_reducible refine gD ?_|with_reducible refine gS ?_ (.inl rfl)|((with_reducible refine gBx ?_ (.inr ?_));rotate_left;(focus ((try dsimp only);(try simp);(try omega))))|((with_reducible refine gS ?_ (.inr ?_));rotate_left;(focus ((try dsimp only);(try simp);(try omega))))))))⟩
    · show OCells _ lo (.slice (some ⟨g,0,none⟩) c.cells.length q1) (turnC c i h.seen 2 0).cells
      exact zO p1 o1
    · show OInts _ lo (.slice a2 c.words.length q2) c.words
      exact zO p2 o2
set_option maxRecDepth 100000 in
set_option maxHeartbeats 2000000 in
theorem sendKeep_no (c:Ch) (h:Ha) (v1 v2:Value) (lo:Nat) (w:World) (h1:OCells w lo v1 c.cells) (h2:OInts w lo v2 c.words) (hc0:0≤h.cell) (hc1:h.cell<c.cells.length) (ht:turnCB c h.cell h.seen 2 0=false) :
    Calls Try.prog 102 #[.agg (cvals c v1 v2),.agg (hvals h)] w fun r w'=>StepO w w' lo v1 v2 ((c,{ h with pos:=3 },true)) r:=by
  obtain ⟨i,hci⟩:∃ i:Nat,h.cell=(i:Int):=⟨h.cell.toNat,by omega⟩
  have hi:i<c.cells.length:=by omega
  have hi0:(0:Int)≤(i:Int):=by omega
  have hi1:(i:Int)<(c.cells.length:Int):=by omega
  have hne:=h1.ne h2
  obtain ⟨a2,q2,rfl,_⟩:=h2.seg
  obtain ⟨g,q1,rfl,hlo1,hlt,hcell,hfr⟩:=h1.open1 hi
  have O1:=Lib.hid h1
  have O2:=Lib.hid h2
  have lg0:g<w.heap.size+1:=by omega
  have lg1:g<w.heap.size+1+1:=by omega
  have lg2:g<w.heap.size+1+1+1:=by omega
  have ng0:g≠w.heap.size:=by omega
  have ng1:g≠w.heap.size+1:=by omega
  have ng2:g≠w.heap.size+1+1:=by omega
  have ng3:g≠w.heap.size+1+1+1:=by omega
  have mg0:w.heap.size≠g:=by omega
  have mg1:w.heap.size+1≠g:=by omega
  have mg2:w.heap.size+1+1≠g:=by omega
  have mg3:w.heap.size+1+1+1≠g:=by omega
  have hx:Hid (cellAt c h.cell=c.cells.getD i ⟨0,0,0⟩):=by simp [cellAt,Hid,hci]
  have c0:=hcell 0 (by omega)
  have c1:=hcell 1 (by omega)
  have c2:=hcell 2 (by omega)
  simp only [C3.val,Nat.add_zero] at c0 c1 c2
  rw [hci,turnCB_at] at ht
  clear hx hcell h1 h2
  generalize c.cells.getD i ⟨0,0,0⟩=x at *
  obtain ⟨s,e,t⟩:=x
  simp only at c0 c1 c2
  have ht2:turnB s e t h.seen 2 0=false:=ht
  have K:∀ W,Calls Try.prog 105 #[.agg #[.int .i64 s,.int .i64 e,.int .i64 t],.int .i64 h.seen,.int .i64 2,.int .i64 0] W fun r w'=>r=.returned (.tuple #[.agg #[.int .i64 s,.int .i64 e,.int .i64 t],.bool false])∧Below W.heap.size W w':=fun W=>by
    have:=turned_any s e t h.seen 2 0 W
    unfold TurnR at this
    simpa [turnS,turnW,ht2] using this
  clear ht2
  clear ht
  have o1:=O1.out
  have o2:=O2.out
  go_enter Try.func102,Try.ntmps102
  go_upto_region 1 with fail
  go_cut [7,8] (fun sb sk wx=>∃ gb:Nat,sb=.pointer (some ⟨gb,0,none⟩)∧sk=.bool false∧hp wx gb=some (.cells #[.int .i64 s,.int .i64 e,.int .i64 t] 52)∧hp wx w.heap.size=some (.cells (cvals c (.slice (some ⟨g,0,none⟩) c.cells.length q1) (.slice a2 c.words.length q2)) 33)∧hp wx (w.heap.size+1)=some (.cells (hvals h) 36)∧hp wx (w.heap.size+1+1)=some (.cells (cvals Ch.zero (.slice none 0 0) (.slice none 0 0)) 33)∧hp wx (w.heap.size+1+1+1)=some (.cells (hvals Ha.zero) 36)∧Below w.heap.size w wx)
  case first =>
    go_region_held3 (fun w'=>w'.cell? ⟨w.heap.size,4,none⟩=some (.slice (some ⟨g,0,none⟩) c.cells.length q1)∧w'.cell? ⟨w.heap.size+1,3,none⟩=some (.int .i64 i)∧w'.cell? ⟨w.heap.size+1,4,none⟩=some (.int .i64 h.seen)∧w'.cell? ⟨g,i*3,none⟩=some (.int .i64 s)∧w'.cell? ⟨g,i*3+1,none⟩=some (.int .i64 e)∧w'.cell? ⟨g,i*3+2,none⟩=some (.int .i64 t))
      (first|(simp [*,go_sem]))
      (first|(go_at_call 105;refine (K _).mono ?_;rintro _ w4 ⟨rfl,hbw4⟩;have hBw4:Below w.heap.size w w4:=bT (by exact zB) hbw4;have hsw4:=hbw4.size;(try (simp at hsw4));have zz:=hQ hbw4 (b:=w.heap.size);(first|(simp [go_sem,z_w,l_w] at zz)|(simp [go_sem] at zz));(try clear x_w f_w);(try clear z_w);have z_w:=zz;clear zz;(try clear l_w);obtain ⟨x_w,f_w,l_w⟩:=bO z_w;have zz:=hQ hbw4 (b:=w.heap.size+1);(first|(simp [go_sem,z_wp,l_wp] at zz)|(simp [go_sem] at zz));(try clear x_wp f_wp);(try clear z_wp);have z_wp:=zz;clear zz;(try clear l_wp);obtain ⟨x_wp,f_wp,l_wp⟩:=bO z_wp;have zz:=hQ hbw4 (b:=w.heap.size+1+1);(first|(simp [go_sem,z_wpp,l_wpp] at zz)|(simp [go_sem] at zz));(try clear x_wpp f_wpp);(try clear z_wpp);have z_wpp:=zz;clear zz;(try clear l_wpp);obtain ⟨x_wpp,f_wpp,l_wpp⟩:=bO z_wpp;have zz:=hQ hbw4 (b:=w.heap.size+1+1+1);(first|(simp [go_sem,z_wppp,l_wppp] at zz)|(simp [go_sem] at zz));(try clear x_wppp f_wppp);(try clear z_wppp);have z_wppp:=zz;clear zz;(try clear l_wppp);obtain ⟨x_wppp,f_wppp,l_wppp⟩:=bO z_wppp;have t0w4:=hpB hbw4 (b:=w.heap.size+1+1+1+1);(try simp [go_sem] at t0w4);(try have n0w4:=(bO t0w4).2.2);have kww4:w.heap.size<w4.heap.size:=(by omega);have qww4:w.heap.size<w4.heap.size+1:=(by omega);have kwpw4:w.heap.size+1<w4.heap.size:=(by omega);have qwpw4:w.heap.size+1<w4.heap.size+1:=(by omega);have kwppw4:w.heap.size+1+1<w4.heap.size:=(by omega);have qwppw4:w.heap.size+1+1<w4.heap.size+1:=(by omega);have kwpppw4:w.heap.size+1+1+1<w4.heap.size:=(by omega);have qwpppw4:w.heap.size+1+1+1<w4.heap.size+1:=(by omega);have y0:=(hBw4.cell (p:=⟨g,i*3,none⟩) hlt).trans c0;have y1:=(hBw4.cell (p:=⟨g,i*3+1,none⟩) hlt).trans c1;have y2:=(hBw4.cell (p:=⟨g,i*3+2,none⟩) hlt).trans c2;have yl:g<w4.heap.size:=(by omega);have yn:g≠w4.heap.size:=(by omega);have yn2:w4.heap.size≠g:=(by omega);(try (have xt:=(bO t0w4).1;have ft:=(bO t0w4).2.1))))
    all_goals (go_wp2_with fail)
    all_goals go_meet
    all_goals exact ⟨_,rfl,rfl,by simp [go_sem, *],by simp [go_sem, *],by simp [go_sem, *],by simp [go_sem, *],by simp [go_sem, *],by exact zB⟩
  case rest =>
    obtain ⟨gb,rfl,rfl,z_b,z_w,z_wp,z_wpp,z_wppp,hCw4⟩:=hcut
    obtain ⟨w4,hw⟩:∃ x,x=wc:=⟨_,rfl⟩
    rw [← hw] at z_b z_w z_wp z_wpp z_wppp hCw4 ⊢
    clear hw
    obtain ⟨x_b,f_b,l_b⟩:=bO z_b
    obtain ⟨x_w,f_w,l_w⟩:=bO z_w
    obtain ⟨x_wp,f_wp,l_wp⟩:=bO z_wp
    obtain ⟨x_wpp,f_wpp,l_wpp⟩:=bO z_wpp
    obtain ⟨x_wppp,f_wppp,l_wppp⟩:=bO z_wppp
    have y0:=(hCw4.cell (p:=⟨g,i*3,none⟩) hlt).trans c0
    have y1:=(hCw4.cell (p:=⟨g,i*3+1,none⟩) hlt).trans c1
    have y2:=(hCw4.cell (p:=⟨g,i*3+2,none⟩) hlt).trans c2
    have yf:=fun o=>(hCw4.frozen (p:=⟨g,o,none⟩) hlt).trans (hfr o)
    go_wp2_with fail
    go_region_held3 (fun w'=>hp w' w.heap.size=some (.cells (cvals c (.slice (some ⟨g,0,none⟩) c.cells.length q1) (.slice a2 c.words.length q2)) 33)∧hp w' (w.heap.size+1)=some (.cells (hvals h) 36))
      (first|(simp [*,go_sem]))
      (first|((go_at_call 66;refine bHit w (by exact zB) fun bb=>?_;refine (moved_any _ _ _).mono ?_;rintro _ w6 ⟨rfl,hbw6⟩;have hCw6:Below w.heap.size w w6:=bT bb hbw6;have hsw6:=hbw6.size;(try simp at hsw6);have zz:=q4 hbw6 (b:=w.heap.size);(first|simp [go_sem,z_wppp,z_wpp,z_wp,z_w,l_w,l_wp,l_wpp,l_wppp] at zz|simp [go_sem] at zz|skip);(try clear z_wppp x_wppp f_wppp l_wppp);(try clear z_wpp x_wpp f_wpp l_wpp);(try clear z_wp x_wp f_wp l_wp);(try clear z_w x_w f_w l_w);obtain ⟨z_wppp,z_wpp,z_wp,z_w⟩:=zz;obtain ⟨x_wppp,f_wppp,l_wppp⟩:=bO z_wppp;obtain ⟨x_wpp,f_wpp,l_wpp⟩:=bO z_wpp;obtain ⟨x_wp,f_wp,l_wp⟩:=bO z_wp;obtain ⟨x_w,f_w,l_w⟩:=bO z_w;have hKw6:Below w.heap.size w w6:=hCw6;clear hbw6 bb);have p1:=own_below o1 hKw6;have p2:=own_below o2 hKw6))
    go_wp2
    refine bodyPost_ret (res_cct Try.results102 rfl (ldChan c (.slice (some ⟨g,0,none⟩) c.cells.length q1) (.slice a2 c.words.length q2) (by simp [go_sem, *] <;> rfl)) rfl (ldHand { h with pos:=3 } (by simp [go_sem, *] <;> first|rfl|simp [seenAs,anew,hci]))) rfl ⟨⟨_,_,rfl,?_,?_,fresh_refl _ _,fresh_refl _ _⟩,onlB (by exact zB)⟩
    · exact zO p1 o1
    · exact zO p2 o2
end Go.Proofs.Ytajopaegmocnlaa
set_option linter.unusedSimpArgs false
set_option linter.unusedVariables false
namespace Go.Proofs.Ytajopaegmocnlaa
open Go.RowKit
set_option linter.unusedSimpArgs false
attribute [local simp] bx_size
attribute [local go_sem ↓] zeroHand zeroChan toLHand toLChan toVHand toVChan storeHand storeChan storeHandC storeChanC
theorem pMore2_any (c:Ch) (v1 v2:Value) (lo:Nat) (L:List Int) (m:Int) (w:World) (h1:OCells w lo v1 c.cells) (h2:OInts w lo v2 c.words) (hc:chanOk c=true) (hf:¬ 80≤c.words.length) (hL:L=c.words ++ [0]) (hm:m=(c.words.length:Int)+1) :
    Calls Try.prog 104 #[.agg (cvals c v1 v2)] w fun r w'=>(∃ y1 y2,r=.returned (.tuple #[.agg (cvals c y1 y2),.int .i64 m])∧OCells w' w.heap.size y1 c.cells∧OInts w' w.heap.size y2 L)∧Below w.heap.size w w':=by
  subst hL hm
  exact pMore_any c v1 v2 lo w h1 h2 hc hf
set_option maxRecDepth 100000 in
set_option maxHeartbeats 2000000 in
theorem waited_full (c:Ch) (st:Int) (y z:Ha) (v1 v2:Value) (lo:Nat) (w:World) (h1:OCells w lo v1 c.cells) (h2:OInts w lo v2 c.words) (hc:chanOk c=true) (hf:80≤c.words.length) :
    Calls Try.prog 93 #[.agg (cvals c v1 v2),.int .i64 st,.agg (hvals y),.agg (hvals z)] w fun r w'=>StepB w w' lo v1 v2 ((c,resting 4 0,true)) r:=by
  have b1:=fun j (hj:v1.ownBlock=some j)=>(h1.lt j hj).2
  have b2:=fun j (hj:v2.ownBlock=some j)=>(h2.lt j hj).2
  obtain ⟨a1,q1,rfl,_⟩:=h1.seg
  obtain ⟨a2,q2,rfl,_⟩:=h2.seg
  have O1:=Lib.hid h1
  have O2:=Lib.hid h2
  clear h1 h2
  have o1:=O1.out
  have o2:=O2.out
  go_enter Try.func93,Try.ntmps93
  go_wp2_with fail;refine bHit w (by exact zB) fun bb=>?_;refine (pFull_any c _ _ lo _ (by exact zO o1 o1) (by exact zO o2 o2) hc hf).mono ?_;rintro _ w1 ⟨⟨y1,y2,rfl,oY1,oY2⟩,hbw1⟩;have hCw1:Below w.heap.size w w1:=bT bb hbw1;have hsw1:=hbw1.size;(try simp at hsw1);have zz:=And.intro (hQ hbw1 (b:=w.heap.size+1+1+1+1)) <| And.intro (hQ hbw1 (b:=w.heap.size+1+1+1)) <| And.intro (hQ hbw1 (b:=w.heap.size+1+1)) <| And.intro (hQ hbw1 (b:=w.heap.size+1)) <| hQ hbw1 (b:=w.heap.size);(try simp [go_sem] at zz);(try clear z_wpppp x_wpppp f_wpppp l_wpppp);(try clear z_wppp x_wppp f_wppp l_wppp);(try clear z_wpp x_wpp f_wpp l_wpp);(try clear z_wp x_wp f_wp l_wp);(try clear z_w x_w f_w l_w);obtain ⟨z_wpppp,z_wppp,z_wpp,z_wp,z_w⟩:=zz;obtain ⟨x_wpppp,f_wpppp,l_wpppp⟩:=bO z_wpppp;obtain ⟨x_wppp,f_wppp,l_wppp⟩:=bO z_wppp;obtain ⟨x_wpp,f_wpp,l_wpp⟩:=bO z_wpp;obtain ⟨x_wp,f_wp,l_wp⟩:=bO z_wp;obtain ⟨x_w,f_w,l_w⟩:=bO z_w;have hKw1:Below w.heap.size w w1:=hCw1;clear hbw1 bb
  obtain ⟨ya,yp,rfl,_⟩:=oY1.seg
  obtain ⟨yb,yq,rfl,_⟩:=oY2.seg
  have k0:w.heap.size<w1.heap.size:=by omega
  have k1:w.heap.size+1<w1.heap.size:=by omega
  have k2:w.heap.size+1+1<w1.heap.size:=by omega
  have k3:w.heap.size+1+1+1<w1.heap.size:=by omega
  have k4:w.heap.size+1+1+1+1<w1.heap.size:=by omega
  go_wp2_with fail
  go_region_held3 (fun w'=>hp w' w.heap.size=some (.cells (cvals c (.slice a1 c.cells.length q1) (.slice a2 c.words.length q2)) 33)∧hp w' (w.heap.size+1)=some (.cells (hvals y) 36))
    (first|(simp [*,go_sem]))
    (first|((go_at_call 92;refine bHit w (by exact zB) fun bb=>?_;refine (resting_any _ _ _).mono ?_;rintro _ w2 ⟨rfl,hbw2⟩;have hCw2:Below w.heap.size w w2:=bT bb hbw2;have hsw2:=hbw2.size;(try simp at hsw2);have zz:=And.intro (hQ hbw2 (b:=w.heap.size+1+1+1+1)) <| And.intro (hQ hbw2 (b:=w.heap.size+1+1+1)) <| And.intro (hQ hbw2 (b:=w.heap.size+1+1)) <| And.intro (hQ hbw2 (b:=w.heap.size+1)) <| hQ hbw2 (b:=w.heap.size);(first|simp [go_sem,z_wpppp,z_wppp,z_wpp,z_wp,z_w,l_w,l_wp,l_wpp,l_wppp,l_wpppp,k0,k1,k2,k3,k4] at zz|simp [go_sem] at zz|skip);(try clear z_wpppp x_wpppp f_wpppp l_wpppp);(try clear z_wppp x_wppp f_wppp l_wppp);(try clear z_wpp x_wpp f_wpp l_wpp);(try clear z_wp x_wp f_wp l_wp);(try clear z_w x_w f_w l_w);obtain ⟨z_wpppp,z_wppp,z_wpp,z_wp,z_w⟩:=zz;obtain ⟨x_wpppp,f_wpppp,l_wpppp⟩:=bO z_wpppp;obtain ⟨x_wppp,f_wppp,l_wppp⟩:=bO z_wppp;obtain ⟨x_wpp,f_wpp,l_wpp⟩:=bO z_wpp;obtain ⟨x_wp,f_wp,l_wp⟩:=bO z_wp;obtain ⟨x_w,f_w,l_w⟩:=bO z_w;have hKw2:Below w.heap.size w w2:=hCw2;clear hbw2 bb);have p1:=own_below o1 hKw2;have p2:=own_below o2 hKw2))
  go_wp2
  refine bodyPost_ret (res_cct Try.results93 rfl (ldChan c (.slice a1 c.cells.length q1) (.slice a2 c.words.length q2) (by simp [go_sem, *] <;> rfl)) rfl (ldHand (resting 4 0) (by simp [go_sem, *] <;> first|rfl|simp [seenAs,anew,hci]))) rfl ⟨⟨_,_,rfl,?_,?_,fresh_refl _ _,fresh_refl _ _⟩,by exact zB⟩
  · exact zO p1 o1
  · exact zO p2 o2
set_option maxRecDepth 100000 in
set_option maxHeartbeats 2000000 in
theorem waited_no (c:Ch) (st:Int) (y z:Ha) (v1 v2:Value) (lo:Nat) (w:World) (h1:OCells w lo v1 c.cells) (h2:OInts w lo v2 c.words) (hc0:0≤y.cell) (hc1:y.cell<c.cells.length) (hc:chanOk c=true) (hlo:lo≤w.heap.size) (hf:¬ 80≤c.words.length) (m:Int) (hm:m=(c.words.length:Int)+1) (ht:turnCB c y.cell y.seen st m=false) :
    Calls Try.prog 93 #[.agg (cvals c v1 v2),.int .i64 st,.agg (hvals y),.agg (hvals z)] w fun r w'=>StepB w w' lo v1 v2 ((c,z,true)) r:=by
  obtain ⟨i,hci⟩:∃ i:Nat,y.cell=(i:Int):=⟨y.cell.toNat,by omega⟩
  have hi:i<c.cells.length:=by omega
  have hi0:(0:Int)≤(i:Int):=by omega
  have hi1:(i:Int)<(c.cells.length:Int):=by omega
  have hne:=h1.ne h2
  obtain ⟨a2,q2,rfl,_⟩:=h2.seg
  obtain ⟨g,q1,rfl,hlo1,hlt,hcell,hfr⟩:=h1.open1 hi
  have O1:=Lib.hid h1
  have O2:=Lib.hid h2
  have lg0:g<w.heap.size+1:=by omega
  have lg1:g<w.heap.size+1+1:=by omega
  have lg2:g<w.heap.size+1+1+1:=by omega
  have ng0:g≠w.heap.size:=by omega
  have ng1:g≠w.heap.size+1:=by omega
  have ng2:g≠w.heap.size+1+1:=by omega
  have ng3:g≠w.heap.size+1+1+1:=by omega
  have mg0:w.heap.size≠g:=by omega
  have mg1:w.heap.size+1≠g:=by omega
  have mg2:w.heap.size+1+1≠g:=by omega
  have mg3:w.heap.size+1+1+1≠g:=by omega
  have lg3:g<w.heap.size+1+1+1+1:=by omega
  have ng4:g≠w.heap.size+1+1+1+1:=by omega
  have mg4:w.heap.size+1+1+1+1≠g:=by omega
  have hx:Hid (cellAt c y.cell=c.cells.getD i ⟨0,0,0⟩):=by simp [cellAt,Hid,hci]
  have c0:=hcell 0 (by omega)
  have c1:=hcell 1 (by omega)
  have c2:=hcell 2 (by omega)
  simp only [C3.val,Nat.add_zero] at c0 c1 c2
  have ht1:=ht
  rw [hci,turnCB_at] at ht
  clear hx hcell h1 h2
  generalize c.cells.getD i ⟨0,0,0⟩=x at *
  obtain ⟨s,e,t⟩:=x
  simp only at c0 c1 c2
  have ht2:turnB s e t y.seen st m=false:=ht
  have K:∀ W,Calls Try.prog 105 #[.agg #[.int .i64 s,.int .i64 e,.int .i64 t],.int .i64 y.seen,.int .i64 st,.int .i64 m] W fun r w'=>r=.returned (.tuple #[.agg #[.int .i64 s,.int .i64 e,.int .i64 t],.bool false])∧Below W.heap.size W w':=fun W=>by
    have:=turned_any s e t y.seen st m W
    unfold TurnR at this
    simpa [turnS,turnW,ht2] using this
  clear ht2
  have hm0:(m == 0)=false:=by simp;omega
  have PM:=fun v1 v2 lo L W a1 a2 b1=>pMore2_any c v1 v2 lo L m W a1 a2 hc hf b1 hm
  obtain ⟨L,hL⟩:∃ L,L=c.words ++ [0]:=⟨_,rfl⟩
  have PM2:=Lib.hid fun v1 v2 lo W a1 a2=>PM v1 v2 lo L W a1 a2 hL
  clear PM hm hf
  clear hL
  clear ht ht1
  have o1:=O1.out
  have o2:=O2.out
  go_enter Try.func93,Try.ntmps93
  go_wp2_with fail;refine bHit w (by exact zB) fun bb=>?_;refine (PM2.out _ _ lo _ (by exact zO o1 o1) (by exact zO o2 o2)).mono ?_;rintro _ w1 ⟨⟨y1,y2,rfl,oY1,oY2⟩,hbw1⟩;have hCw1:Below w.heap.size w w1:=bT bb hbw1;have hsw1:=hbw1.size;(try simp at hsw1);have zz:=And.intro (hQ hbw1 (b:=w.heap.size+1+1+1+1)) <| And.intro (hQ hbw1 (b:=w.heap.size+1+1+1)) <| And.intro (hQ hbw1 (b:=w.heap.size+1+1)) <| And.intro (hQ hbw1 (b:=w.heap.size+1)) <| hQ hbw1 (b:=w.heap.size);(try simp [go_sem] at zz);(try clear z_wpppp x_wpppp f_wpppp l_wpppp);(try clear z_wppp x_wppp f_wppp l_wppp);(try clear z_wpp x_wpp f_wpp l_wpp);(try clear z_wp x_wp f_wp l_wp);(try clear z_w x_w f_w l_w);obtain ⟨z_wpppp,z_wppp,z_wpp,z_wp,z_w⟩:=zz;obtain ⟨x_wpppp,f_wpppp,l_wpppp⟩:=bO z_wpppp;obtain ⟨x_wppp,f_wppp,l_wppp⟩:=bO z_wppp;obtain ⟨x_wpp,f_wpp,l_wpp⟩:=bO z_wpp;obtain ⟨x_wp,f_wp,l_wp⟩:=bO z_wp;obtain ⟨x_w,f_w,l_w⟩:=bO z_w;have hKw1:Below w.heap.size w w1:=hCw1;clear hbw1 bb
  try simp at oY1 oY2
  have fY1:Fresh w (.slice (some ⟨g,0,none⟩) c.cells.length q1) y1:=fun j hj=>.inr (by have:=(oY1.lt j hj).1;(try simp at this);omega)
  have fY2:Fresh w (.slice a2 c.words.length q2) y2:=fun j hj=>.inr (by have:=(oY2.lt j hj).1;(try simp at this);omega)
  obtain ⟨ga,yp,rfl,hlA,hltA,hcellA,hfrA⟩:=oY1.open1 hi
  obtain ⟨yb,yq,rfl,_⟩:=oY2.seg
  have k0:w.heap.size<w1.heap.size:=by omega
  have k1:w.heap.size+1<w1.heap.size:=by omega
  have k2:w.heap.size+1+1<w1.heap.size:=by omega
  have k3:w.heap.size+1+1+1<w1.heap.size:=by omega
  have k4:w.heap.size+1+1+1+1<w1.heap.size:=by omega
  have j0:w.heap.size<w1.heap.size+1:=by omega
  have j1:w.heap.size+1<w1.heap.size+1:=by omega
  have j2:w.heap.size+1+1<w1.heap.size+1:=by omega
  have j3:w.heap.size+1+1+1<w1.heap.size+1:=by omega
  have j4:w.heap.size+1+1+1+1<w1.heap.size+1:=by omega
  have j5:w1.heap.size<w1.heap.size+1:=by omega
  have d0:=(hCw1.cell (p:=⟨g,i*3,none⟩) hlt).trans c0
  have d1:=(hCw1.cell (p:=⟨g,i*3+1,none⟩) hlt).trans c1
  have d2:=(hCw1.cell (p:=⟨g,i*3+2,none⟩) hlt).trans c2
  have gw1:g<w1.heap.size:=by omega
  have gw2:g≠w1.heap.size:=by omega
  have gw3:w1.heap.size≠g:=by omega
  have e0:=hcellA 0 (by omega)
  have e1:=hcellA 1 (by omega)
  have e2:=hcellA 2 (by omega)
  simp only [C3.val,Nat.add_zero] at e0 e1 e2
  clear hcellA
  obtain ⟨x0,hx0⟩:∃ x0,w1.cell? ⟨ga,i*3,none⟩=some x0:=⟨_,e0⟩
  obtain ⟨x1,hx1⟩:∃ x1,w1.cell? ⟨ga,i*3+1,none⟩=some x1:=⟨_,e1⟩
  obtain ⟨x2,hx2⟩:∃ x2,w1.cell? ⟨ga,i*3+2,none⟩=some x2:=⟨_,e2⟩
  clear e0 e1 e2
  have r1:=own_lo (lo':=lo) oY1 (by omega)
  have r2:=own_lo (lo':=lo) oY2 (by omega)
  go_upto_region 4 with fail
  go_cut [13,14] (fun sb sk wx=>∃ gb:Nat,sb=.pointer (some ⟨gb,0,none⟩)∧sk=.bool false∧hp wx gb=some (.cells #[.int .i64 s,.int .i64 e,.int .i64 t] 52)∧hp wx w.heap.size=some (.cells (cvals c (.slice (some ⟨g,0,none⟩) c.cells.length q1) (.slice a2 c.words.length q2)) 33)∧hp wx (w.heap.size+1)=some (.cells (hvals y) 36)∧hp wx (w.heap.size+1+1)=some (.cells (hvals z) 36)∧hp wx (w.heap.size+1+1+1)=some (.cells (cvals Ch.zero (.slice none 0 0) (.slice none 0 0)) 33)∧hp wx (w.heap.size+1+1+1+1)=some (.cells (hvals Ha.zero) 36)∧hp wx w1.heap.size=some (.cells (cvals c (.slice (some ⟨ga,0,none⟩) c.cells.length yp) (.slice yb L.length yq)) 33)∧Below w.heap.size w wx∧Below w1.heap.size w1 wx)
  case first =>
    go_region_held3 (fun w'=>w'.cell? ⟨w.heap.size,4,none⟩=some (.slice (some ⟨g,0,none⟩) c.cells.length q1)∧w'.cell? ⟨w.heap.size+1,3,none⟩=some (.int .i64 i)∧w'.cell? ⟨w.heap.size+1,4,none⟩=some (.int .i64 y.seen)∧w'.cell? ⟨g,i*3,none⟩=some (.int .i64 s)∧w'.cell? ⟨g,i*3+1,none⟩=some (.int .i64 e)∧w'.cell? ⟨g,i*3+2,none⟩=some (.int .i64 t))
      (first|(simp [*,go_sem]))
      (first|(go_at_call 105;refine (K _).mono ?_;rintro _ w4 ⟨rfl,hbw4⟩;have hBw4:Below w.heap.size w w4:=bT (by exact zB) hbw4;have hsw4:=hbw4.size;(try (simp at hsw4));have zz:=hQ hbw4 (b:=w.heap.size);(first|(simp [go_sem,z_w,l_w,k0,k1,k2,k3,k4,j0,j1,j2,j3,j4,j5] at zz)|(simp [go_sem,k0,k1,k2,k3,k4,j0,j1,j2,j3,j4,j5] at zz));(try clear x_w f_w);(try clear z_w);have z_w:=zz;clear zz;(try clear l_w);obtain ⟨x_w,f_w,l_w⟩:=bO z_w;have zz:=hQ hbw4 (b:=w.heap.size+1);(first|(simp [go_sem,z_wp,l_wp,k0,k1,k2,k3,k4,j0,j1,j2,j3,j4,j5] at zz)|(simp [go_sem,k0,k1,k2,k3,k4,j0,j1,j2,j3,j4,j5] at zz));(try clear x_wp f_wp);(try clear z_wp);have z_wp:=zz;clear zz;(try clear l_wp);obtain ⟨x_wp,f_wp,l_wp⟩:=bO z_wp;have zz:=hQ hbw4 (b:=w.heap.size+1+1);(first|(simp [go_sem,z_wpp,l_wpp,k0,k1,k2,k3,k4,j0,j1,j2,j3,j4,j5] at zz)|(simp [go_sem,k0,k1,k2,k3,k4,j0,j1,j2,j3,j4,j5] at zz));(try clear x_wpp f_wpp);(try clear z_wpp);have z_wpp:=zz;clear zz;(try clear l_wpp);obtain ⟨x_wpp,f_wpp,l_wpp⟩:=bO z_wpp;have zz:=hQ hbw4 (b:=w.heap.size+1+1+1);(first|(simp [go_sem,z_wppp,l_wppp,k0,k1,k2,k3,k4,j0,j1,j2,j3,j4,j5] at zz)|(simp [go_sem,k0,k1,k2,k3,k4,j0,j1,j2,j3,j4,j5] at zz));(try clear x_wppp f_wppp);(try clear z_wppp);have z_wppp:=zz;clear zz;(try clear l_wppp);obtain ⟨x_wppp,f_wppp,l_wppp⟩:=bO z_wppp;have zz:=hQ hbw4 (b:=w.heap.size+1+1+1+1);(first|(simp [go_sem,z_wpppp,l_wpppp,k0,k1,k2,k3,k4,j0,j1,j2,j3,j4,j5] at zz)|(simp [go_sem,k0,k1,k2,k3,k4,j0,j1,j2,j3,j4,j5] at zz));(try clear x_wpppp f_wpppp);(try clear z_wpppp);have z_wpppp:=zz;clear zz;(try clear l_wpppp);obtain ⟨x_wpppp,f_wpppp,l_wpppp⟩:=bO z_wpppp;have zz:=hQ hbw4 (b:=w1.heap.size);(first|(simp [go_sem,z_w1,l_w1,k0,k1,k2,k3,k4,j0,j1,j2,j3,j4,j5] at zz)|(simp [go_sem,k0,k1,k2,k3,k4,j0,j1,j2,j3,j4,j5] at zz));(try clear x_w1 f_w1);(try clear z_w1);have z_w1:=zz;clear zz;(try clear l_w1);obtain ⟨x_w1,f_w1,l_w1⟩:=bO z_w1;have t0w4:=hpB hbw4 (b:=w1.heap.size+1);(try simp [go_sem] at t0w4);(try have n0w4:=(bO t0w4).2.2);have kww4:w.heap.size<w4.heap.size:=(by omega);have qww4:w.heap.size<w4.heap.size+1:=(by omega);have kwpw4:w.heap.size+1<w4.heap.size:=(by omega);have qwpw4:w.heap.size+1<w4.heap.size+1:=(by omega);have kwppw4:w.heap.size+1+1<w4.heap.size:=(by omega);have qwppw4:w.heap.size+1+1<w4.heap.size+1:=(by omega);have kwpppw4:w.heap.size+1+1+1<w4.heap.size:=(by omega);have qwpppw4:w.heap.size+1+1+1<w4.heap.size+1:=(by omega);have kwppppw4:w.heap.size+1+1+1+1<w4.heap.size:=(by omega);have qwppppw4:w.heap.size+1+1+1+1<w4.heap.size+1:=(by omega);have kw1w4:w1.heap.size<w4.heap.size:=(by omega);have qw1w4:w1.heap.size<w4.heap.size+1:=(by omega);have hKw4:Below w1.heap.size w1 w4:=bT (by exact zB) hbw4;have y0:=(hBw4.cell (p:=⟨g,i*3,none⟩) hlt).trans c0;have y1:=(hBw4.cell (p:=⟨g,i*3+1,none⟩) hlt).trans c1;have y2:=(hBw4.cell (p:=⟨g,i*3+2,none⟩) hlt).trans c2;have yl:g<w4.heap.size:=(by omega);have yn:g≠w4.heap.size:=(by omega);have yn2:w4.heap.size≠g:=(by omega);(try (have xt:=(bO t0w4).1;have ft:=(bO t0w4).2.1))))
    all_goals (go_wp2_with fail)
    all_goals go_meet
    all_goals exact ⟨_,rfl,rfl,by simp [go_sem, *],by simp [go_sem, *],by simp [go_sem, *],by simp [go_sem, *],by simp [go_sem, *],by simp [go_sem, *],by simp [go_sem, *],by exact zB,by exact zB⟩
  case rest =>
    obtain ⟨gb,rfl,rfl,z_b,z_w,z_wp,z_wpp,z_wppp,z_wpppp,z_w1,hCw4,hK4⟩:=hcut
    obtain ⟨w4,hw⟩:∃ x,x=wc:=⟨_,rfl⟩
    rw [← hw] at z_b z_w z_wp z_wpp z_wppp z_wpppp z_w1 hCw4 hK4 ⊢
    clear hw
    obtain ⟨x_b,f_b,l_b⟩:=bO z_b
    obtain ⟨x_w,f_w,l_w⟩:=bO z_w
    obtain ⟨x_wp,f_wp,l_wp⟩:=bO z_wp
    obtain ⟨x_wpp,f_wpp,l_wpp⟩:=bO z_wpp
    obtain ⟨x_wppp,f_wppp,l_wppp⟩:=bO z_wppp
    obtain ⟨x_wpppp,f_wpppp,l_wpppp⟩:=bO z_wpppp
    obtain ⟨x_w1,f_w1,l_w1⟩:=bO z_w1
    have y0:=(hCw4.cell (p:=⟨g,i*3,none⟩) hlt).trans c0
    have y1:=(hCw4.cell (p:=⟨g,i*3+1,none⟩) hlt).trans c1
    have y2:=(hCw4.cell (p:=⟨g,i*3+2,none⟩) hlt).trans c2
    have yf:=fun o=>(hCw4.frozen (p:=⟨g,o,none⟩) hlt).trans (hfr o)
    have p1:=own_below o1 hCw4
    have p2:=own_below o2 hCw4
    go_wp2_with fail
    go_region
    go_wp2
    refine bodyPost_ret (res_cct Try.results93 rfl (ldChan c (.slice (some ⟨g,0,none⟩) c.cells.length q1) (.slice a2 c.words.length q2) (by simp [go_sem, *] <;> rfl)) rfl (ldHand z (by simp [go_sem, *] <;> first|rfl|simp [seenAs,anew,hci]))) rfl ⟨⟨_,_,rfl,?_,?_,fresh_refl _ _,fresh_refl _ _⟩,by exact zB⟩
    · exact zO p1 o1
    · exact zO p2 o2
set_option maxRecDepth 100000 in
set_option maxHeartbeats 2000000 in
theorem waited_yes (c:Ch) (st:Int) (y z:Ha) (v1 v2:Value) (lo:Nat) (w:World) (h1:OCells w lo v1 c.cells) (h2:OInts w lo v2 c.words) (hc0:0≤y.cell) (hc1:y.cell<c.cells.length) (hc:chanOk c=true) (hlo:lo≤w.heap.size) (hf:¬ 80≤c.words.length) (m:Int) (hm:m=(c.words.length:Int)+1) (ht:turnCB c y.cell y.seen st m=true) :
    Calls Try.prog 93 #[.agg (cvals c v1 v2),.int .i64 st,.agg (hvals y),.agg (hvals z)] w fun r w'=>StepB w w' lo v1 v2 (({ turnC c y.cell y.seen st m with words:=c.words ++ [0] },{ y with mine:=m },true)) r:=by
  obtain ⟨i,hci⟩:∃ i:Nat,y.cell=(i:Int):=⟨y.cell.toNat,by omega⟩
  have hi:i<c.cells.length:=by omega
  have hi0:(0:Int)≤(i:Int):=by omega
  have hi1:(i:Int)<(c.cells.length:Int):=by omega
  have hne:=h1.ne h2
  obtain ⟨a2,q2,rfl,_⟩:=h2.seg
  obtain ⟨g,q1,rfl,hlo1,hlt,hcell,hfr⟩:=h1.open1 hi
  have O1:=Lib.hid h1
  have O2:=Lib.hid h2
  have lg0:g<w.heap.size+1:=by omega
  have lg1:g<w.heap.size+1+1:=by omega
  have lg2:g<w.heap.size+1+1+1:=by omega
  have ng0:g≠w.heap.size:=by omega
  have ng1:g≠w.heap.size+1:=by omega
  have ng2:g≠w.heap.size+1+1:=by omega
  have ng3:g≠w.heap.size+1+1+1:=by omega
  have mg0:w.heap.size≠g:=by omega
  have mg1:w.heap.size+1≠g:=by omega
  have mg2:w.heap.size+1+1≠g:=by omega
  have mg3:w.heap.size+1+1+1≠g:=by omega
  have lg3:g<w.heap.size+1+1+1+1:=by omega
  have ng4:g≠w.heap.size+1+1+1+1:=by omega
  have mg4:w.heap.size+1+1+1+1≠g:=by omega
  have hx:Hid (cellAt c y.cell=c.cells.getD i ⟨0,0,0⟩):=by simp [cellAt,Hid,hci]
  have c0:=hcell 0 (by omega)
  have c1:=hcell 1 (by omega)
  have c2:=hcell 2 (by omega)
  simp only [C3.val,Nat.add_zero] at c0 c1 c2
  rw [show turnC c y.cell y.seen st m=turnC c i y.seen st m by rw [hci]]
  have hlc:Hid ((turnC c i y.seen st m).cells=c.cells.set i (turnX (c.cells.getD i ⟨0,0,0⟩) y.seen st m)):=turnC_cells c i y.seen st m
  have ht1:=ht
  rw [hci,turnCB_at] at ht
  clear hx hcell h1 h2
  generalize c.cells.getD i ⟨0,0,0⟩=x at *
  obtain ⟨s,e,t⟩:=x
  simp only at c0 c1 c2
  have ht2:turnB s e t y.seen st m=true:=ht
  have K:∀ W,Calls Try.prog 105 #[.agg #[.int .i64 s,.int .i64 e,.int .i64 t],.int .i64 y.seen,.int .i64 st,.int .i64 m] W fun r w'=>r=.returned (.tuple #[.agg #[.int .i64 st,.int .i64 e,.int .i64 m],.bool true])∧Below W.heap.size W w':=fun W=>by
    have:=turned_any s e t y.seen st m W
    unfold TurnR at this
    simpa [turnS,turnW,ht2] using this
  clear ht2
  have hm0:(m == 0)=false:=by simp;omega
  have PM:=fun v1 v2 lo L W a1 a2 b1=>pMore2_any c v1 v2 lo L m W a1 a2 hc hf b1 hm
  obtain ⟨L,hL⟩:∃ L,L=c.words ++ [0]:=⟨_,rfl⟩
  have PM2:=Lib.hid fun v1 v2 lo W a1 a2=>PM v1 v2 lo L W a1 a2 hL
  clear PM hm hf
  rw [← hL]
  clear hL
  have hlx:Hid ((turnC c i y.seen st m).cells=c.cells.set i ⟨st,e,m⟩):=by
    have ht2:turnB s e t y.seen st m=true:=ht
    rw [hlc.out]
    simp [Hid,turnX,turnS,turnW,ht2]
  clear hlc ht ht1
  have hci2:hvals { y with mine:=m }=hvals { y with mine:=m,cell:=(i:Int) }:=by rw [hci]
  have o1:=O1.out
  have o2:=O2.out
  go_enter Try.func93,Try.ntmps93
  go_wp2_with fail;refine bHit w (by exact zB) fun bb=>?_;refine (PM2.out _ _ lo _ (by exact zO o1 o1) (by exact zO o2 o2)).mono ?_;rintro _ w1 ⟨⟨y1,y2,rfl,oY1,oY2⟩,hbw1⟩;have hCw1:Below w.heap.size w w1:=bT bb hbw1;have hsw1:=hbw1.size;(try simp at hsw1);have zz:=And.intro (hQ hbw1 (b:=w.heap.size+1+1+1+1)) <| And.intro (hQ hbw1 (b:=w.heap.size+1+1+1)) <| And.intro (hQ hbw1 (b:=w.heap.size+1+1)) <| And.intro (hQ hbw1 (b:=w.heap.size+1)) <| hQ hbw1 (b:=w.heap.size);(try simp [go_sem] at zz);(try clear z_wpppp x_wpppp f_wpppp l_wpppp);(try clear z_wppp x_wppp f_wppp l_wppp);(try clear z_wpp x_wpp f_wpp l_wpp);(try clear z_wp x_wp f_wp l_wp);(try clear z_w x_w f_w l_w);obtain ⟨z_wpppp,z_wppp,z_wpp,z_wp,z_w⟩:=zz;obtain ⟨x_wpppp,f_wpppp,l_wpppp⟩:=bO z_wpppp;obtain ⟨x_wppp,f_wppp,l_wppp⟩:=bO z_wppp;obtain ⟨x_wpp,f_wpp,l_wpp⟩:=bO z_wpp;obtain ⟨x_wp,f_wp,l_wp⟩:=bO z_wp;obtain ⟨x_w,f_w,l_w⟩:=bO z_w;have hKw1:Below w.heap.size w w1:=hCw1;clear hbw1 bb
  try simp at oY1 oY2
  have fY1:Fresh w (.slice (some ⟨g,0,none⟩) c.cells.length q1) y1:=fun j hj=>.inr (by have:=(oY1.lt j hj).1;(try simp at this);omega)
  have fY2:Fresh w (.slice a2 c.words.length q2) y2:=fun j hj=>.inr (by have:=(oY2.lt j hj).1;(try simp at this);omega)
  obtain ⟨ga,yp,rfl,hlA,hltA,hcellA,hfrA⟩:=oY1.open1 hi
  obtain ⟨yb,yq,rfl,_⟩:=oY2.seg
  have k0:w.heap.size<w1.heap.size:=by omega
  have k1:w.heap.size+1<w1.heap.size:=by omega
  have k2:w.heap.size+1+1<w1.heap.size:=by omega
  have k3:w.heap.size+1+1+1<w1.heap.size:=by omega
  have k4:w.heap.size+1+1+1+1<w1.heap.size:=by omega
  have j0:w.heap.size<w1.heap.size+1:=by omega
  have j1:w.heap.size+1<w1.heap.size+1:=by omega
  have j2:w.heap.size+1+1<w1.heap.size+1:=by omega
  have j3:w.heap.size+1+1+1<w1.heap.size+1:=by omega
  have j4:w.heap.size+1+1+1+1<w1.heap.size+1:=by omega
  have j5:w1.heap.size<w1.heap.size+1:=by omega
  have d0:=(hCw1.cell (p:=⟨g,i*3,none⟩) hlt).trans c0
  have d1:=(hCw1.cell (p:=⟨g,i*3+1,none⟩) hlt).trans c1
  have d2:=(hCw1.cell (p:=⟨g,i*3+2,none⟩) hlt).trans c2
  have gw1:g<w1.heap.size:=by omega
  have gw2:g≠w1.heap.size:=by omega
  have gw3:w1.heap.size≠g:=by omega
  have e0:=hcellA 0 (by omega)
  have e1:=hcellA 1 (by omega)
  have e2:=hcellA 2 (by omega)
  simp only [C3.val,Nat.add_zero] at e0 e1 e2
  clear hcellA
  obtain ⟨x0,hx0⟩:∃ x0,w1.cell? ⟨ga,i*3,none⟩=some x0:=⟨_,e0⟩
  obtain ⟨x1,hx1⟩:∃ x1,w1.cell? ⟨ga,i*3+1,none⟩=some x1:=⟨_,e1⟩
  obtain ⟨x2,hx2⟩:∃ x2,w1.cell? ⟨ga,i*3+2,none⟩=some x2:=⟨_,e2⟩
  clear e0 e1 e2
  have r1:=own_lo (lo':=lo) oY1 (by omega)
  have r2:=own_lo (lo':=lo) oY2 (by omega)
  go_upto_region 4 with fail
  go_cut [13,14] (fun sb sk wx=>∃ gb:Nat,sb=.pointer (some ⟨gb,0,none⟩)∧sk=.bool true∧hp wx gb=some (.cells #[.int .i64 st,.int .i64 e,.int .i64 m] 52)∧hp wx w.heap.size=some (.cells (cvals c (.slice (some ⟨g,0,none⟩) c.cells.length q1) (.slice a2 c.words.length q2)) 33)∧hp wx (w.heap.size+1)=some (.cells (hvals y) 36)∧hp wx (w.heap.size+1+1)=some (.cells (hvals z) 36)∧hp wx (w.heap.size+1+1+1)=some (.cells (cvals Ch.zero (.slice none 0 0) (.slice none 0 0)) 33)∧hp wx (w.heap.size+1+1+1+1)=some (.cells (hvals Ha.zero) 36)∧hp wx w1.heap.size=some (.cells (cvals c (.slice (some ⟨ga,0,none⟩) c.cells.length yp) (.slice yb L.length yq)) 33)∧Below w.heap.size w wx∧Below w1.heap.size w1 wx)
  case first =>
    go_region_held3 (fun w'=>w'.cell? ⟨w.heap.size,4,none⟩=some (.slice (some ⟨g,0,none⟩) c.cells.length q1)∧w'.cell? ⟨w.heap.size+1,3,none⟩=some (.int .i64 i)∧w'.cell? ⟨w.heap.size+1,4,none⟩=some (.int .i64 y.seen)∧w'.cell? ⟨g,i*3,none⟩=some (.int .i64 s)∧w'.cell? ⟨g,i*3+1,none⟩=some (.int .i64 e)∧w'.cell? ⟨g,i*3+2,none⟩=some (.int .i64 t))
      (first|(simp [*,go_sem]))
      (first|(go_at_call 105;refine (K _).mono ?_;rintro _ w4 ⟨rfl,hbw4⟩;have hBw4:Below w.heap.size w w4:=bT (by exact zB) hbw4;have hsw4:=hbw4.size;(try (simp at hsw4));have zz:=hQ hbw4 (b:=w.heap.size);(first|(simp [go_sem,z_w,l_w,k0,k1,k2,k3,k4,j0,j1,j2,j3,j4,j5] at zz)|(simp [go_sem,k0,k1,k2,k3,k4,j0,j1,j2,j3,j4,j5] at zz));(try clear x_w f_w);(try clear z_w);have z_w:=zz;clear zz;(try clear l_w);obtain ⟨x_w,f_w,l_w⟩:=bO z_w;have zz:=hQ hbw4 (b:=w.heap.size+1);(first|(simp [go_sem,z_wp,l_wp,k0,k1,k2,k3,k4,j0,j1,j2,j3,j4,j5] at zz)|(simp [go_sem,k0,k1,k2,k3,k4,j0,j1,j2,j3,j4,j5] at zz));(try clear x_wp f_wp);(try clear z_wp);have z_wp:=zz;clear zz;(try clear l_wp);obtain ⟨x_wp,f_wp,l_wp⟩:=bO z_wp;have zz:=hQ hbw4 (b:=w.heap.size+1+1);(first|(simp [go_sem,z_wpp,l_wpp,k0,k1,k2,k3,k4,j0,j1,j2,j3,j4,j5] at zz)|(simp [go_sem,k0,k1,k2,k3,k4,j0,j1,j2,j3,j4,j5] at zz));(try clear x_wpp f_wpp);(try clear z_wpp);have z_wpp:=zz;clear zz;(try clear l_wpp);obtain ⟨x_wpp,f_wpp,l_wpp⟩:=bO z_wpp;have zz:=hQ hbw4 (b:=w.heap.size+1+1+1);(first|(simp [go_sem,z_wppp,l_wppp,k0,k1,k2,k3,k4,j0,j1,j2,j3,j4,j5] at zz)|(simp [go_sem,k0,k1,k2,k3,k4,j0,j1,j2,j3,j4,j5] at zz));(try clear x_wppp f_wppp);(try clear z_wppp);have z_wppp:=zz;clear zz;(try clear l_wppp);obtain ⟨x_wppp,f_wppp,l_wppp⟩:=bO z_wppp;have zz:=hQ hbw4 (b:=w.heap.size+1+1+1+1);(first|(simp [go_sem,z_wpppp,l_wpppp,k0,k1,k2,k3,k4,j0,j1,j2,j3,j4,j5] at zz)|(simp [go_sem,k0,k1,k2,k3,k4,j0,j1,j2,j3,j4,j5] at zz));(try clear x_wpppp f_wpppp);(try clear z_wpppp);have z_wpppp:=zz;clear zz;(try clear l_wpppp);obtain ⟨x_wpppp,f_wpppp,l_wpppp⟩:=bO z_wpppp;have zz:=hQ hbw4 (b:=w1.heap.size);(first|(simp [go_sem,z_w1,l_w1,k0,k1,k2,k3,k4,j0,j1,j2,j3,j4,j5] at zz)|(simp [go_sem,k0,k1,k2,k3,k4,j0,j1,j2,j3,j4,j5] at zz));(try clear x_w1 f_w1);(try clear z_w1);have z_w1:=zz;clear zz;(try clear l_w1);obtain ⟨x_w1,f_w1,l_w1⟩:=bO z_w1;have t0w4:=hpB hbw4 (b:=w1.heap.size+1);(try simp [go_sem] at t0w4);(try have n0w4:=(bO t0w4).2.2);have kww4:w.heap.size<w4.heap.size:=(by omega);have qww4:w.heap.size<w4.heap.size+1:=(by omega);have kwpw4:w.heap.size+1<w4.heap.size:=(by omega);have qwpw4:w.heap.size+1<w4.heap.size+1:=(by omega);have kwppw4:w.heap.size+1+1<w4.heap.size:=(by omega);have qwppw4:w.heap.size+1+1<w4.heap.size+1:=(by omega);have kwpppw4:w.heap.size+1+1+1<w4.heap.size:=(by omega);have qwpppw4:w.heap.size+1+1+1<w4.heap.size+1:=(by omega);have kwppppw4:w.heap.size+1+1+1+1<w4.heap.size:=(by omega);have qwppppw4:w.heap.size+1+1+1+1<w4.heap.size+1:=(by omega);have kw1w4:w1.heap.size<w4.heap.size:=(by omega);have qw1w4:w1.heap.size<w4.heap.size+1:=(by omega);have hKw4:Below w1.heap.size w1 w4:=bT (by exact zB) hbw4;have y0:=(hBw4.cell (p:=⟨g,i*3,none⟩) hlt).trans c0;have y1:=(hBw4.cell (p:=⟨g,i*3+1,none⟩) hlt).trans c1;have y2:=(hBw4.cell (p:=⟨g,i*3+2,none⟩) hlt).trans c2;have yl:g<w4.heap.size:=(by omega);have yn:g≠w4.heap.size:=(by omega);have yn2:w4.heap.size≠g:=(by omega);(try (have xt:=(bO t0w4).1;have ft:=(bO t0w4).2.1))))
    all_goals (go_wp2_with fail)
    all_goals go_meet
    all_goals exact ⟨_,rfl,rfl,by simp [go_sem, *],by simp [go_sem, *],by simp [go_sem, *],by simp [go_sem, *],by simp [go_sem, *],by simp [go_sem, *],by simp [go_sem, *],by exact zB,by exact zB⟩
  case rest =>
    obtain ⟨gb,rfl,rfl,z_b,z_w,z_wp,z_wpp,z_wppp,z_wpppp,z_w1,hCw4,hK4⟩:=hcut
    obtain ⟨w4,hw⟩:∃ x,x=wc:=⟨_,rfl⟩
    rw [← hw] at z_b z_w z_wp z_wpp z_wppp z_wpppp z_w1 hCw4 hK4 ⊢
    clear hw
    obtain ⟨x_b,f_b,l_b⟩:=bO z_b
    obtain ⟨x_w,f_w,l_w⟩:=bO z_w
    obtain ⟨x_wp,f_wp,l_wp⟩:=bO z_wp
    obtain ⟨x_wpp,f_wpp,l_wpp⟩:=bO z_wpp
    obtain ⟨x_wppp,f_wppp,l_wppp⟩:=bO z_wppp
    obtain ⟨x_wpppp,f_wpppp,l_wpppp⟩:=bO z_wpppp
    obtain ⟨x_w1,f_w1,l_w1⟩:=bO z_w1
    have y0:=(hCw4.cell (p:=⟨g,i*3,none⟩) hlt).trans c0
    have y1:=(hCw4.cell (p:=⟨g,i*3+1,none⟩) hlt).trans c1
    have y2:=(hCw4.cell (p:=⟨g,i*3+2,none⟩) hlt).trans c2
    have yf:=fun o=>(hCw4.frozen (p:=⟨g,o,none⟩) hlt).trans (hfr o)
    have v0:=(hK4.cell (p:=⟨ga,i*3,none⟩) hltA).trans hx0
    have v1:=(hK4.cell (p:=⟨ga,i*3+1,none⟩) hltA).trans hx1
    have v2:=(hK4.cell (p:=⟨ga,i*3+2,none⟩) hltA).trans hx2
    have vf:=fun o=>(hK4.frozen (p:=⟨ga,o,none⟩) hltA).trans (hfrA o)
    go_upto_region 8 with fail
    have hneA:(Value.slice yb L.length yq).ownBlock≠some ga:=OCells.ne oY1 oY2 ga rfl
    obtain ⟨w5,hw5⟩:∃ w5,w5=((w4.setCell ⟨ga,i*3,none⟩ (.int .i64 st)).setCell ⟨ga,i*3+1,none⟩ (.int .i64 e)).setCell ⟨ga,i*3+2,none⟩ (.int .i64 m):=⟨_,rfl⟩
    have r1:OCells w5 lo (.slice (some ⟨ga,0,none⟩) c.cells.length yp) (turnC c i y.seen st m).cells:=by rw [hw5];rw [hlx.out];simpa using OCells.set (own_below r1 hK4) hi ⟨st,e,m⟩
    have r2:OInts w5 lo (.slice yb L.length yq) L:=by rw [hw5];exact own_store (own_store (own_store (own_below r2 hK4) hneA _) hneA _) hneA _
    have hgw5:w4.grownBy w5 (some ga):=by rw [hw5];exact gS (gS (gS (gR _ _) (.inl rfl)) (.inl rfl)) (.inl rfl)
    rw [← hw5]
    clear hw5
    have sg5:some (w.heap.size+1+1+1+1)≠some ga:=by simp;omega
    have sg4:some w1.heap.size≠some ga:=by simp;omega
    have sg0:some w.heap.size≠some ga:=by simp;omega
    have sg1:some (w.heap.size+1)≠some ga:=by simp;omega
    have sg2:some (w.heap.size+1+1)≠some ga:=by simp;omega
    have sg3:some (w.heap.size+1+1+1)≠some ga:=by simp;omega
    have hsw5:=hgw5.size;(try (simp at hsw5));have zz:=And.intro (grHp hgw5 (b:=w1.heap.size) (by (try simp) <;> omega) (by assumption)) <| And.intro (grHp hgw5 (b:=w.heap.size+1+1+1+1) (by (try simp) <;> omega) (by assumption)) <| And.intro (grHp hgw5 (b:=w.heap.size+1+1+1) (by (try simp) <;> omega) (by assumption)) <| And.intro (grHp hgw5 (b:=w.heap.size+1+1) (by (try simp) <;> omega) (by assumption)) <| And.intro (grHp hgw5 (b:=w.heap.size+1) (by (try simp) <;> omega) (by assumption)) <| grHp hgw5 (b:=w.heap.size) (by (try simp) <;> omega) (by assumption);(first|simp [go_sem,z_w1,z_wpppp,z_wppp,z_wpp,z_wp,z_w,l_w,l_w1,l_wp,l_wpp,l_wppp,l_wpppp,k0,k1,k2,k3,k4] at zz|simp [go_sem] at zz|skip);(try clear z_w1 x_w1 f_w1 l_w1);(try clear z_wpppp x_wpppp f_wpppp l_wpppp);(try clear z_wppp x_wppp f_wppp l_wppp);(try clear z_wpp x_wpp f_wpp l_wpp);(try clear z_wp x_wp f_wp l_wp);(try clear z_w x_w f_w l_w);obtain ⟨z_w1,z_wpppp,z_wppp,z_wpp,z_wp,z_w⟩:=zz;obtain ⟨x_w1,f_w1,l_w1⟩:=bO z_w1;obtain ⟨x_wpppp,f_wpppp,l_wpppp⟩:=bO z_wpppp;obtain ⟨x_wppp,f_wppp,l_wppp⟩:=bO z_wppp;obtain ⟨x_wpp,f_wpp,l_wpp⟩:=bO z_wpp;obtain ⟨x_wp,f_wp,l_wp⟩:=bO z_wp;obtain ⟨x_w,f_w,l_w⟩:=bO z_w
    have hCw5:Below w.heap.size w w5:=bOwn hCw4 hgw5 hCw4.size (fun k hk=>by have:=Option.some.inj hk;omega)
    clear hgw5
    clear y0 y1 y2 yf x_b f_b l_b z_b v0 v1 v2 vf
    go_wp2_with fail
    go_region
    go_wp2
    refine bodyPost_ret (res_cct Try.results93 rfl (ldChan c (.slice (some ⟨ga,0,none⟩) c.cells.length yp) (.slice yb L.length yq) (by simp [go_sem, *] <;> rfl)) rfl (ldHand { y with mine:=m } (by simp [go_sem, *] <;> first|rfl|simp [seenAs,anew,hci]))) rfl ⟨⟨.slice (some ⟨ga,0,none⟩) c.cells.length yp,.slice yb L.length yq,rfl,?_,?_,fY1,fY2⟩,by exact zB⟩
    · show OCells _ lo (.slice (some ⟨ga,0,none⟩) c.cells.length yp) (turnC c i y.seen st m).cells
      exact zO r1 oY1
    · show OInts _ lo (.slice yb L.length yq) L
      exact zO r2 oY2
def wtS (c:Ch) (st:Int) (y z:Ha):St :=
  if 80≤c.words.length then (c,resting 4 0,true) else
  if turnCB c y.cell y.seen st (c.words.length+1) then ({ turnC c y.cell y.seen st (c.words.length+1) with words:=c.words ++ [0] },{ y with mine:=c.words.length+1 },true) else (c,z,true)
set_option maxRecDepth 100000 in
set_option maxHeartbeats 2000000 in
theorem waited_any (c:Ch) (st:Int) (y z:Ha) (v1 v2:Value) (lo:Nat) (w:World) (h1:OCells w lo v1 c.cells) (h2:OInts w lo v2 c.words) (hc0:0≤y.cell) (hc1:y.cell<c.cells.length) (hc:chanOk c=true) (hlo:lo≤w.heap.size) :
    Calls Try.prog 93 #[.agg (cvals c v1 v2),.int .i64 st,.agg (hvals y),.agg (hvals z)] w fun r w'=>StepB w w' lo v1 v2 (wtS c st y z) r:=by
  by_cases hf:80≤c.words.length
  · rw [show wtS c st y z=(c,resting 4 0,true) by simp [wtS,hf]]
    exact waited_full c st y z v1 v2 lo w h1 h2 hc hf
  · cases ht:turnCB c y.cell y.seen st (c.words.length+1) with
    | true =>
      rw [show wtS c st y z=({ turnC c y.cell y.seen st (c.words.length+1) with words:=c.words ++ [0] },{ y with mine:=c.words.length+1 },true) by simp [wtS,hf,ht]]
      exact waited_yes c st y z v1 v2 lo w h1 h2 hc0 hc1 hc hlo hf _ rfl ht
    | false =>
      rw [show wtS c st y z=(c,z,true) by simp [wtS,hf,ht]]
      exact waited_no c st y z v1 v2 lo w h1 h2 hc0 hc1 hc hlo hf _ rfl ht
end Go.Proofs.Ytajopaegmocnlaa
set_option linter.unusedSimpArgs false
set_option linter.unusedVariables false
namespace Go.Proofs.Ytajopaegmocnlaa
open Go.RowKit
set_option linter.unusedSimpArgs false
attribute [local simp] bx_size
attribute [local go_sem ↓] zeroHand zeroChan toLHand toLChan toVHand toVChan storeHand storeChan storeHandC storeChanC
def keep6 (c:Ch) (h:Ha):St:=if turnCB c h.cell h.seen 2 0 then (turnC c h.cell h.seen 2 0,resting 1 0,true) else (c,{ h with pos:=3 },true)
def wt6 (c:Ch) (h:Ha):St:=wtS c 3 { h with pos:=23 } { h with pos:=3 }
def cl6 (c:Ch) (h:Ha):St:=wkS c { h with pos:=8 } (anew h)
set_option maxRecDepth 100000 in
set_option maxHeartbeats 2000000 in
theorem sendWait_any (c:Ch) (h:Ha) (v1 v2:Value) (lo:Nat) (w:World) (h1:OCells w lo v1 c.cells) (h2:OInts w lo v2 c.words) (hc0:0≤h.cell) (hc1:h.cell<c.cells.length) (hc:chanOk c=true) (hlo:lo≤w.heap.size) :
    Calls Try.prog 103 #[.agg (cvals c v1 v2),.agg (hvals h)] w fun r w'=>StepO w w' lo v1 v2 (wt6 c h) r:=by
  have T0:=fun W a b hl=>waited_any c 3 { h with pos:=23 } { h with pos:=3 } v1 v2 lo W a b hc0 hc1 hc hl
  change ∀ W,_→_→_→Calls _ _ _ _ (fun r w'=>StepB W w' lo v1 v2 (wt6 c h) r) at T0
  generalize wt6 c h=x at *
  have b1:=fun j (hj:v1.ownBlock=some j)=>(h1.lt j hj).2
  have b2:=fun j (hj:v2.ownBlock=some j)=>(h2.lt j hj).2
  obtain ⟨a1,q1,rfl,_⟩:=h1.seg
  obtain ⟨a2,q2,rfl,_⟩:=h2.seg
  have O1:=Lib.hid h1
  have O2:=Lib.hid h2
  clear h1 h2
  have T:=Lib.hid T0
  clear T0
  have o1:=O1.out
  have o2:=O2.out
  go_enter Try.func103,Try.ntmps103
  go_upto_region 1 with fail
  refine wp_region_inv [[],[],[1],[],[3],[0,1,2,3,4],[0,1,2,3,4,5],[0,1,2,3,4,5],[0,1,2,3,4,5],[0,1,2,3,4,5,6],[0,1,2,3,4,5,7],[0,1,2,3,4,5,8]] [7,8,9,10,11,12,13,14,15,6] (fun l s wx=>(Below w.heap.size w wx)∧(w.heap.size+1+1+1+1≤wx.heap.size)∧(hp wx w.heap.size=some (.cells (cvals c (.slice a1 c.cells.length q1) (.slice a2 c.words.length q2)) 33))∧(hp wx (w.heap.size+1)=some (.cells (hvals h) 36))∧(hp wx (w.heap.size+1+1)=some (.cells (cond (l 9) (cvals x.1 (s 1003) (s 1004)) (cvals Ch.zero (.slice none 0 0) (.slice none 0 0))) 33))∧(hp wx (w.heap.size+1+1+1)=some (.cells (cond (l 10) (hvals x.2.1) (hvals Ha.zero)) 36))∧(OCells wx lo (.slice a1 c.cells.length q1) c.cells)∧(OInts wx lo (.slice a2 c.words.length q2) c.words)∧(l 0=true→s 7=.agg (cvals c (.slice a1 c.cells.length q1) (.slice a2 c.words.length q2)))∧(l 1=true→s 8=.agg (hvals h))∧(l 2=true→s 9=.agg (hvals ({ h with pos:=23 })))∧(l 3=true→s 10=.agg (hvals h))∧(l 4=true→s 11=.agg (hvals ({ h with pos:=3 })))∧(l 5=true→s 12=.tuple #[.agg (cvals x.1 (s 1003) (s 1004)),.agg (hvals x.2.1),.bool x.2.2]∧OCells wx lo (s 1003) x.1.cells∧OInts wx lo (s 1004) x.1.words∧Fresh w (.slice a1 c.cells.length q1) (s 1003)∧Fresh w (.slice a2 c.words.length q2) (s 1004))∧(l 6=true→s 13=.agg (cvals x.1 (s 1003) (s 1004)))∧(l 7=true→s 14=.agg (hvals x.2.1))∧(l 8=true→s 15=.bool x.2.2)∧(l 11=true→s 6=.bool x.2.2)) (by kernel_rfl) (by kernel_rfl) (by kernel_rfl) (fun s=>by (simp only [fill,fillA,List.setIfInBounds_toArray,List.set_cons_zero,List.set_cons_succ];rfl)) (fun s=>⟨by exact zB,by simp,by simp [go_sem],by simp [go_sem],by simp [go_sem],by simp [go_sem],by exact zO o1 o1,by exact zO o2 o2,fun h=>absurd h Bool.false_ne_true,fun h=>absurd h Bool.false_ne_true,fun h=>absurd h Bool.false_ne_true,fun h=>absurd h Bool.false_ne_true,fun h=>absurd h Bool.false_ne_true,fun h=>absurd h Bool.false_ne_true,fun h=>absurd h Bool.false_ne_true,fun h=>absurd h Bool.false_ne_true,fun h=>absurd h Bool.false_ne_true,fun h=>absurd h Bool.false_ne_true⟩) ?_ ?_
  refine ⟨?_,?_,?_,?_,?_,?_,?_,?_,?_,?_,?_,?_,trivial⟩;rotate_left 12
  · intro l s wx hall hf
    have hB:=hf.1
    have z1:=hf.2.2.2.2.1
    have z2:=hf.2.2.2.2.2.1
    rw [hall 9 rfl] at z1
    rw [hall 10 rfl] at z2
    dsimp only [cond] at z1 z2
    obtain ⟨_,X1,X2,F1,F2⟩:=(hf.2.2.2.2.2.2.2.2.2.2.2.2.2.1 (hall 5 rfl))
    have ec:=(hf.2.2.2.2.2.2.2.2.2.2.2.2.2.2.2.2.2 (hall 11 rfl))
    simp only [ec]
    clear ec hf hall
    go_wp2
    exact bodyPost_ret (res_cct Try.results103 rfl (ldChan x.1 _ _ z1) rfl (ldHand x.2.1 z2)) rfl ⟨⟨_,_,rfl,X1,X2,F1,F2⟩,onlB hB⟩
  · intro l s wx hl hd hn hf0 K hK
    have hf:=Lib.hid hf0
    clear hf0
    have zc:=hf.out.2.2.1
    go_simp
    refine hK.out (upd s 7 (.agg (cvals c (.slice a1 c.cells.length q1) (.slice a2 c.words.length q2)))) _ _ (by simp [upd_at] <;> rfl) ⟨hf.out.1,hf.out.2.1,hf.out.2.2.1,hf.out.2.2.2.1,hf.out.2.2.2.2.1,hf.out.2.2.2.2.2.1,hf.out.2.2.2.2.2.2.1,hf.out.2.2.2.2.2.2.2.1,fun _=>rfl,fun h=>(hf.out.2.2.2.2.2.2.2.2.2.1 h),fun h=>(hf.out.2.2.2.2.2.2.2.2.2.2.1 h),fun h=>(hf.out.2.2.2.2.2.2.2.2.2.2.2.1 h),fun h=>(hf.out.2.2.2.2.2.2.2.2.2.2.2.2.1 h),fun h=>absurd h (by rw [show upd l 0 true 5=l 5 from rfl,hn 5 rfl];exact Bool.false_ne_true),fun h=>absurd h (by rw [show upd l 0 true 6=l 6 from rfl,hn 6 rfl];exact Bool.false_ne_true),fun h=>absurd h (by rw [show upd l 0 true 7=l 7 from rfl,hn 7 rfl];exact Bool.false_ne_true),fun h=>absurd h (by rw [show upd l 0 true 8=l 8 from rfl,hn 8 rfl];exact Bool.false_ne_true),fun h=>absurd h (by rw [show upd l 0 true 11=l 11 from rfl,hn 11 rfl];exact Bool.false_ne_true)⟩
  · intro l s wx hl hd hn hf0 K hK
    have hf:=Lib.hid hf0
    clear hf0
    have zh:=hf.out.2.2.2.1
    go_simp
    refine hK.out (upd s 8 (.agg (hvals h))) _ _ (by simp [upd_at] <;> rfl) ⟨hf.out.1,hf.out.2.1,hf.out.2.2.1,hf.out.2.2.2.1,hf.out.2.2.2.2.1,hf.out.2.2.2.2.2.1,hf.out.2.2.2.2.2.2.1,hf.out.2.2.2.2.2.2.2.1,fun h=>(hf.out.2.2.2.2.2.2.2.2.1 h),fun _=>rfl,fun h=>absurd h (by rw [show upd l 1 true 2=l 2 from rfl,hn 2 rfl];exact Bool.false_ne_true),fun h=>(hf.out.2.2.2.2.2.2.2.2.2.2.2.1 h),fun h=>(hf.out.2.2.2.2.2.2.2.2.2.2.2.2.1 h),fun h=>absurd h (by rw [show upd l 1 true 5=l 5 from rfl,hn 5 rfl];exact Bool.false_ne_true),fun h=>absurd h (by rw [show upd l 1 true 6=l 6 from rfl,hn 6 rfl];exact Bool.false_ne_true),fun h=>absurd h (by rw [show upd l 1 true 7=l 7 from rfl,hn 7 rfl];exact Bool.false_ne_true),fun h=>absurd h (by rw [show upd l 1 true 8=l 8 from rfl,hn 8 rfl];exact Bool.false_ne_true),fun h=>absurd h (by rw [show upd l 1 true 11=l 11 from rfl,hn 11 rfl];exact Bool.false_ne_true)⟩
  · intro l s wx hl hd hn hf0 K hK
    have hf:=Lib.hid hf0
    clear hf0
    have e1:=(hf.out.2.2.2.2.2.2.2.2.2.1 (hd 1 rfl))
    go_simp
    go_at_call 66
    refine (moved_any h 23 _).mono ?_
    rintro _ wy ⟨rfl,hE⟩
    refine hK.out (upd s 9 (.agg (hvals ({ h with pos:=23 })))) _ _ (by simp [upd_at,e1] <;> rfl) ⟨bT hf.out.1 hE,Nat.le_trans hf.out.2.1 (Below.size hE),hpS hf.out.2.2.1 hE,hpS hf.out.2.2.2.1 hE,hpS hf.out.2.2.2.2.1 hE,hpS hf.out.2.2.2.2.2.1 hE,own_below hf.out.2.2.2.2.2.2.1 hE,own_below hf.out.2.2.2.2.2.2.2.1 hE,fun h=>(hf.out.2.2.2.2.2.2.2.2.1 h),fun h=>(hf.out.2.2.2.2.2.2.2.2.2.1 h),fun _=>rfl,fun h=>(hf.out.2.2.2.2.2.2.2.2.2.2.2.1 h),fun h=>(hf.out.2.2.2.2.2.2.2.2.2.2.2.2.1 h),fun h=>absurd h (by rw [show upd l 2 true 5=l 5 from rfl,hn 5 rfl];exact Bool.false_ne_true),fun h=>absurd h (by rw [show upd l 2 true 6=l 6 from rfl,hn 6 rfl];exact Bool.false_ne_true),fun h=>absurd h (by rw [show upd l 2 true 7=l 7 from rfl,hn 7 rfl];exact Bool.false_ne_true),fun h=>absurd h (by rw [show upd l 2 true 8=l 8 from rfl,hn 8 rfl];exact Bool.false_ne_true),fun h=>absurd h (by rw [show upd l 2 true 11=l 11 from rfl,hn 11 rfl];exact Bool.false_ne_true)⟩
  · intro l s wx hl hd hn hf0 K hK
    have hf:=Lib.hid hf0
    clear hf0
    have zh:=hf.out.2.2.2.1
    go_simp
    refine hK.out (upd s 10 (.agg (hvals h))) _ _ (by simp [upd_at] <;> rfl) ⟨hf.out.1,hf.out.2.1,hf.out.2.2.1,hf.out.2.2.2.1,hf.out.2.2.2.2.1,hf.out.2.2.2.2.2.1,hf.out.2.2.2.2.2.2.1,hf.out.2.2.2.2.2.2.2.1,fun h=>(hf.out.2.2.2.2.2.2.2.2.1 h),fun h=>(hf.out.2.2.2.2.2.2.2.2.2.1 h),fun h=>(hf.out.2.2.2.2.2.2.2.2.2.2.1 h),fun _=>rfl,fun h=>absurd h (by rw [show upd l 3 true 4=l 4 from rfl,hn 4 rfl];exact Bool.false_ne_true),fun h=>absurd h (by rw [show upd l 3 true 5=l 5 from rfl,hn 5 rfl];exact Bool.false_ne_true),fun h=>absurd h (by rw [show upd l 3 true 6=l 6 from rfl,hn 6 rfl];exact Bool.false_ne_true),fun h=>absurd h (by rw [show upd l 3 true 7=l 7 from rfl,hn 7 rfl];exact Bool.false_ne_true),fun h=>absurd h (by rw [show upd l 3 true 8=l 8 from rfl,hn 8 rfl];exact Bool.false_ne_true),fun h=>absurd h (by rw [show upd l 3 true 11=l 11 from rfl,hn 11 rfl];exact Bool.false_ne_true)⟩
  · intro l s wx hl hd hn hf0 K hK
    have hf:=Lib.hid hf0
    clear hf0
    have e3:=(hf.out.2.2.2.2.2.2.2.2.2.2.2.1 (hd 3 rfl))
    go_simp
    go_at_call 66
    refine (moved_any h 3 _).mono ?_
    rintro _ wy ⟨rfl,hE⟩
    refine hK.out (upd s 11 (.agg (hvals ({ h with pos:=3 })))) _ _ (by simp [upd_at,e3] <;> rfl) ⟨bT hf.out.1 hE,Nat.le_trans hf.out.2.1 (Below.size hE),hpS hf.out.2.2.1 hE,hpS hf.out.2.2.2.1 hE,hpS hf.out.2.2.2.2.1 hE,hpS hf.out.2.2.2.2.2.1 hE,own_below hf.out.2.2.2.2.2.2.1 hE,own_below hf.out.2.2.2.2.2.2.2.1 hE,fun h=>(hf.out.2.2.2.2.2.2.2.2.1 h),fun h=>(hf.out.2.2.2.2.2.2.2.2.2.1 h),fun h=>(hf.out.2.2.2.2.2.2.2.2.2.2.1 h),fun h=>(hf.out.2.2.2.2.2.2.2.2.2.2.2.1 h),fun _=>rfl,fun h=>absurd h (by rw [show upd l 4 true 5=l 5 from rfl,hn 5 rfl];exact Bool.false_ne_true),fun h=>absurd h (by rw [show upd l 4 true 6=l 6 from rfl,hn 6 rfl];exact Bool.false_ne_true),fun h=>absurd h (by rw [show upd l 4 true 7=l 7 from rfl,hn 7 rfl];exact Bool.false_ne_true),fun h=>absurd h (by rw [show upd l 4 true 8=l 8 from rfl,hn 8 rfl];exact Bool.false_ne_true),fun h=>absurd h (by rw [show upd l 4 true 11=l 11 from rfl,hn 11 rfl];exact Bool.false_ne_true)⟩
  · intro l s wx hl hd hn hf0 K hK
    have hf:=Lib.hid hf0
    clear hf0
    have e0:=(hf.out.2.2.2.2.2.2.2.2.1 (hd 0 rfl))
    have e2:=(hf.out.2.2.2.2.2.2.2.2.2.2.1 (hd 2 rfl))
    have e4:=(hf.out.2.2.2.2.2.2.2.2.2.2.2.2.1 (hd 4 rfl))
    go_simp
    go_at_call 93
    refine (T.out _ hf.out.2.2.2.2.2.2.1 hf.out.2.2.2.2.2.2.2.1 (Nat.le_trans hlo (Below.size hf.out.1))).mono ?_
    rintro _ wy ⟨⟨y1,y2,rfl,X1,X2,F1,F2⟩,hE⟩
    refine hK.out (upd (upd (upd s 1003 (y1)) 1004 (y2)) 12 (.tuple #[.agg (cvals x.1 y1 y2),.agg (hvals x.2.1),.bool x.2.2])) _ _ (by simp [upd_at,e0,e2,e4] <;> rfl) ⟨bT hf.out.1 hE,Nat.le_trans hf.out.2.1 (Below.size hE),hpS hf.out.2.2.1 hE,hpS hf.out.2.2.2.1 hE,by (have ee:l 9=false:=hn 9 rfl);(have F:=hf.out.2.2.2.2.1);rw [ee] at F;rw [show upd l 5 true 9=false from ee];exact hpS F hE,by (have ee:l 10=false:=hn 10 rfl);(have F:=hf.out.2.2.2.2.2.1);rw [ee] at F;rw [show upd l 5 true 10=false from ee];exact hpS F hE,own_below hf.out.2.2.2.2.2.2.1 hE,own_below hf.out.2.2.2.2.2.2.2.1 hE,fun h=>(hf.out.2.2.2.2.2.2.2.2.1 h),fun h=>(hf.out.2.2.2.2.2.2.2.2.2.1 h),fun h=>(hf.out.2.2.2.2.2.2.2.2.2.2.1 h),fun h=>(hf.out.2.2.2.2.2.2.2.2.2.2.2.1 h),fun h=>(hf.out.2.2.2.2.2.2.2.2.2.2.2.2.1 h),fun _=>⟨rfl,X1,X2,fun j hj=>(F1 j hj).imp id (fun h=>Nat.le_trans (Below.size hf.out.1) h),fun j hj=>(F2 j hj).imp id (fun h=>Nat.le_trans (Below.size hf.out.1) h)⟩,fun h=>absurd h (by rw [show upd l 5 true 6=l 6 from rfl,hn 6 rfl];exact Bool.false_ne_true),fun h=>absurd h (by rw [show upd l 5 true 7=l 7 from rfl,hn 7 rfl];exact Bool.false_ne_true),fun h=>absurd h (by rw [show upd l 5 true 8=l 8 from rfl,hn 8 rfl];exact Bool.false_ne_true),fun h=>absurd h (by rw [show upd l 5 true 11=l 11 from rfl,hn 11 rfl];exact Bool.false_ne_true)⟩
  · intro l s wx hl hd hn hf0 K hK
    have hf:=Lib.hid hf0
    clear hf0
    have e5:=(hf.out.2.2.2.2.2.2.2.2.2.2.2.2.2.1 (hd 5 rfl)).1
    go_simp
    refine hK.out (upd s 13 (.agg (cvals x.1 (s 1003) (s 1004)))) _ _ (by simp [upd_at,e5] <;> rfl) ⟨hf.out.1,hf.out.2.1,hf.out.2.2.1,hf.out.2.2.2.1,hf.out.2.2.2.2.1,hf.out.2.2.2.2.2.1,hf.out.2.2.2.2.2.2.1,hf.out.2.2.2.2.2.2.2.1,fun h=>(hf.out.2.2.2.2.2.2.2.2.1 h),fun h=>(hf.out.2.2.2.2.2.2.2.2.2.1 h),fun h=>(hf.out.2.2.2.2.2.2.2.2.2.2.1 h),fun h=>(hf.out.2.2.2.2.2.2.2.2.2.2.2.1 h),fun h=>(hf.out.2.2.2.2.2.2.2.2.2.2.2.2.1 h),fun h=>(hf.out.2.2.2.2.2.2.2.2.2.2.2.2.2.1 h),fun _=>rfl,fun h=>(hf.out.2.2.2.2.2.2.2.2.2.2.2.2.2.2.2.1 h),fun h=>(hf.out.2.2.2.2.2.2.2.2.2.2.2.2.2.2.2.2.1 h),fun h=>(hf.out.2.2.2.2.2.2.2.2.2.2.2.2.2.2.2.2.2 h)⟩
  · intro l s wx hl hd hn hf0 K hK
    have hf:=Lib.hid hf0
    clear hf0
    have e5:=(hf.out.2.2.2.2.2.2.2.2.2.2.2.2.2.1 (hd 5 rfl)).1
    go_simp
    refine hK.out (upd s 14 (.agg (hvals x.2.1))) _ _ (by simp [upd_at,e5] <;> rfl) ⟨hf.out.1,hf.out.2.1,hf.out.2.2.1,hf.out.2.2.2.1,hf.out.2.2.2.2.1,hf.out.2.2.2.2.2.1,hf.out.2.2.2.2.2.2.1,hf.out.2.2.2.2.2.2.2.1,fun h=>(hf.out.2.2.2.2.2.2.2.2.1 h),fun h=>(hf.out.2.2.2.2.2.2.2.2.2.1 h),fun h=>(hf.out.2.2.2.2.2.2.2.2.2.2.1 h),fun h=>(hf.out.2.2.2.2.2.2.2.2.2.2.2.1 h),fun h=>(hf.out.2.2.2.2.2.2.2.2.2.2.2.2.1 h),fun h=>(hf.out.2.2.2.2.2.2.2.2.2.2.2.2.2.1 h),fun h=>(hf.out.2.2.2.2.2.2.2.2.2.2.2.2.2.2.1 h),fun _=>rfl,fun h=>(hf.out.2.2.2.2.2.2.2.2.2.2.2.2.2.2.2.2.1 h),fun h=>(hf.out.2.2.2.2.2.2.2.2.2.2.2.2.2.2.2.2.2 h)⟩
  · intro l s wx hl hd hn hf0 K hK
    have hf:=Lib.hid hf0
    clear hf0
    have e5:=(hf.out.2.2.2.2.2.2.2.2.2.2.2.2.2.1 (hd 5 rfl)).1
    go_simp
    refine hK.out (upd s 15 (.bool x.2.2)) _ _ (by simp [upd_at,e5] <;> rfl) ⟨hf.out.1,hf.out.2.1,hf.out.2.2.1,hf.out.2.2.2.1,hf.out.2.2.2.2.1,hf.out.2.2.2.2.2.1,hf.out.2.2.2.2.2.2.1,hf.out.2.2.2.2.2.2.2.1,fun h=>(hf.out.2.2.2.2.2.2.2.2.1 h),fun h=>(hf.out.2.2.2.2.2.2.2.2.2.1 h),fun h=>(hf.out.2.2.2.2.2.2.2.2.2.2.1 h),fun h=>(hf.out.2.2.2.2.2.2.2.2.2.2.2.1 h),fun h=>(hf.out.2.2.2.2.2.2.2.2.2.2.2.2.1 h),fun h=>(hf.out.2.2.2.2.2.2.2.2.2.2.2.2.2.1 h),fun h=>(hf.out.2.2.2.2.2.2.2.2.2.2.2.2.2.2.1 h),fun h=>(hf.out.2.2.2.2.2.2.2.2.2.2.2.2.2.2.2.1 h),fun _=>rfl,fun h=>absurd h (by rw [show upd l 8 true 11=l 11 from rfl,hn 11 rfl];exact Bool.false_ne_true)⟩
  · intro l s wx hl hd hn hf0 K hK
    have hf:=Lib.hid hf0
    clear hf0
    have e6:=(hf.out.2.2.2.2.2.2.2.2.2.2.2.2.2.2.1 (hd 6 rfl))
    have e5:=(hf.out.2.2.2.2.2.2.2.2.2.2.2.2.2.1 (hd 5 rfl))
    have X1:=e5.2.1
    have X2:=e5.2.2.1
    clear e5
    have zr:=hf.out.2.2.2.2.1
    rw [hl] at zr
    dsimp only [cond] at zr
    obtain ⟨xa,xp,ea,_⟩:=X1.seg
    obtain ⟨xb,xq,eb2,_⟩:=X2.seg
    rw [ea,eb2] at e6
    have zn:hp (setBox wx (w.heap.size+1+1) (cvals x.1 (.slice xa x.1.cells.length xp) (.slice xb x.1.words.length xq))) (w.heap.size+1+1)=some (.cells (cvals x.1 (s 1003) (s 1004)) 33):=by rw [ea,eb2];exact hp_set zr
    have hB:=hf.out.1
    go_simp
    refine hK.out (s) _ _ (by simp [upd_at,e6,ea,eb2] <;> rfl) ⟨bBx hB (by omega),Nat.le_trans hf.out.2.1 (Nat.le_of_eq bx_size.symm),(bx_heap_ne (by omega)).trans hf.out.2.2.1,(bx_heap_ne (by omega)).trans hf.out.2.2.2.1,zn,(bx_heap_ne (by omega)).trans hf.out.2.2.2.2.2.1,own_far hf.out.2.2.2.2.2.2.1 zr (by decide),own_far hf.out.2.2.2.2.2.2.2.1 zr (by decide),fun h=>(hf.out.2.2.2.2.2.2.2.2.1 h),fun h=>(hf.out.2.2.2.2.2.2.2.2.2.1 h),fun h=>(hf.out.2.2.2.2.2.2.2.2.2.2.1 h),fun h=>(hf.out.2.2.2.2.2.2.2.2.2.2.2.1 h),fun h=>(hf.out.2.2.2.2.2.2.2.2.2.2.2.2.1 h),fun h=>(let ⟨e,X1,X2,F1,F2⟩:=hf.out.2.2.2.2.2.2.2.2.2.2.2.2.2.1 h;⟨e,own_far X1 zr (by decide),own_far X2 zr (by decide),F1,F2⟩),fun h=>(hf.out.2.2.2.2.2.2.2.2.2.2.2.2.2.2.1 h),fun h=>(hf.out.2.2.2.2.2.2.2.2.2.2.2.2.2.2.2.1 h),fun h=>(hf.out.2.2.2.2.2.2.2.2.2.2.2.2.2.2.2.2.1 h),fun h=>(hf.out.2.2.2.2.2.2.2.2.2.2.2.2.2.2.2.2.2 h)⟩
  · intro l s wx hl hd hn hf0 K hK
    have hf:=Lib.hid hf0
    clear hf0
    have e7:=(hf.out.2.2.2.2.2.2.2.2.2.2.2.2.2.2.2.1 (hd 7 rfl))
    have e5:=(hf.out.2.2.2.2.2.2.2.2.2.2.2.2.2.1 (hd 5 rfl))
    have X1:=e5.2.1
    have X2:=e5.2.2.1
    clear e5
    have zr:=hf.out.2.2.2.2.2.1
    rw [hl] at zr
    dsimp only [cond] at zr
    have zn:hp (setBox wx (w.heap.size+1+1+1) (hvals x.2.1)) (w.heap.size+1+1+1)=some (.cells (hvals x.2.1) 36):=by exact hp_set zr
    have hB:=hf.out.1
    go_simp
    refine hK.out (s) _ _ (by simp [upd_at,e7] <;> rfl) ⟨bBx hB (by omega),Nat.le_trans hf.out.2.1 (Nat.le_of_eq bx_size.symm),(bx_heap_ne (by omega)).trans hf.out.2.2.1,(bx_heap_ne (by omega)).trans hf.out.2.2.2.1,(bx_heap_ne (by omega)).trans hf.out.2.2.2.2.1,zn,own_far hf.out.2.2.2.2.2.2.1 zr (by decide),own_far hf.out.2.2.2.2.2.2.2.1 zr (by decide),fun h=>(hf.out.2.2.2.2.2.2.2.2.1 h),fun h=>(hf.out.2.2.2.2.2.2.2.2.2.1 h),fun h=>(hf.out.2.2.2.2.2.2.2.2.2.2.1 h),fun h=>(hf.out.2.2.2.2.2.2.2.2.2.2.2.1 h),fun h=>(hf.out.2.2.2.2.2.2.2.2.2.2.2.2.1 h),fun h=>(let ⟨e,X1,X2,F1,F2⟩:=hf.out.2.2.2.2.2.2.2.2.2.2.2.2.2.1 h;⟨e,own_far X1 zr (by decide),own_far X2 zr (by decide),F1,F2⟩),fun h=>(hf.out.2.2.2.2.2.2.2.2.2.2.2.2.2.2.1 h),fun h=>(hf.out.2.2.2.2.2.2.2.2.2.2.2.2.2.2.2.1 h),fun h=>(hf.out.2.2.2.2.2.2.2.2.2.2.2.2.2.2.2.2.1 h),fun h=>(hf.out.2.2.2.2.2.2.2.2.2.2.2.2.2.2.2.2.2 h)⟩
  · intro l s wx hl hd hn hf0 K hK
    have hf:=Lib.hid hf0
    clear hf0
    have e8:=(hf.out.2.2.2.2.2.2.2.2.2.2.2.2.2.2.2.2.1 (hd 8 rfl))
    go_simp
    refine hK.out (upd s 6 (.bool x.2.2)) _ _ (by simp [upd_at,e8] <;> rfl) ⟨hf.out.1,hf.out.2.1,hf.out.2.2.1,hf.out.2.2.2.1,hf.out.2.2.2.2.1,hf.out.2.2.2.2.2.1,hf.out.2.2.2.2.2.2.1,hf.out.2.2.2.2.2.2.2.1,fun h=>(hf.out.2.2.2.2.2.2.2.2.1 h),fun h=>(hf.out.2.2.2.2.2.2.2.2.2.1 h),fun h=>(hf.out.2.2.2.2.2.2.2.2.2.2.1 h),fun h=>(hf.out.2.2.2.2.2.2.2.2.2.2.2.1 h),fun h=>(hf.out.2.2.2.2.2.2.2.2.2.2.2.2.1 h),fun h=>(hf.out.2.2.2.2.2.2.2.2.2.2.2.2.2.1 h),fun h=>(hf.out.2.2.2.2.2.2.2.2.2.2.2.2.2.2.1 h),fun h=>(hf.out.2.2.2.2.2.2.2.2.2.2.2.2.2.2.2.1 h),fun h=>(hf.out.2.2.2.2.2.2.2.2.2.2.2.2.2.2.2.2.1 h),fun _=>rfl⟩
set_option maxRecDepth 100000 in
set_option maxHeartbeats 2000000 in
theorem sendCall_any (c:Ch) (h:Ha) (v1 v2:Value) (lo:Nat) (w:World) (h1:OCells w lo v1 c.cells) (h2:OInts w lo v2 c.words) (hc:chanOk c=true) (hlo:lo≤w.heap.size) (hk:callOk h.code h.elem=true) :
    Calls Try.prog 90 #[.agg (cvals c v1 v2),.agg (hvals h)] w fun r w'=>StepO w w' lo v1 v2 (cl6 c h) r:=by
  have T0:=fun W a b hl=>woken_any c { h with pos:=8 } (anew h) v1 v2 lo W a b hc hl
  change ∀ W,_→_→_→Calls _ _ _ _ (fun r w'=>StepB W w' lo v1 v2 (cl6 c h) r) at T0
  generalize cl6 c h=x at *
  have b1:=fun j (hj:v1.ownBlock=some j)=>(h1.lt j hj).2
  have b2:=fun j (hj:v2.ownBlock=some j)=>(h2.lt j hj).2
  obtain ⟨a1,q1,rfl,_⟩:=h1.seg
  obtain ⟨a2,q2,rfl,_⟩:=h2.seg
  have O1:=Lib.hid h1
  have O2:=Lib.hid h2
  clear h1 h2
  have T:=Lib.hid T0
  clear T0
  have o1:=O1.out
  have o2:=O2.out
  go_enter Try.func90,Try.ntmps90
  go_upto_region 1 with fail
  refine wp_region_inv [[],[],[1],[],[3],[0,1,2,3,4],[0,1,2,3,4,5],[0,1,2,3,4,5],[0,1,2,3,4,5],[0,1,2,3,4,5,6],[0,1,2,3,4,5,7],[0,1,2,3,4,5,8]] [7,8,9,10,11,12,13,14,15,6] (fun l s wx=>(Below w.heap.size w wx)∧(w.heap.size+1+1+1+1≤wx.heap.size)∧(hp wx w.heap.size=some (.cells (cvals c (.slice a1 c.cells.length q1) (.slice a2 c.words.length q2)) 33))∧(hp wx (w.heap.size+1)=some (.cells (hvals h) 36))∧(hp wx (w.heap.size+1+1)=some (.cells (cond (l 9) (cvals x.1 (s 1003) (s 1004)) (cvals Ch.zero (.slice none 0 0) (.slice none 0 0))) 33))∧(hp wx (w.heap.size+1+1+1)=some (.cells (cond (l 10) (hvals x.2.1) (hvals Ha.zero)) 36))∧(OCells wx lo (.slice a1 c.cells.length q1) c.cells)∧(OInts wx lo (.slice a2 c.words.length q2) c.words)∧(l 0=true→s 7=.agg (cvals c (.slice a1 c.cells.length q1) (.slice a2 c.words.length q2)))∧(l 1=true→s 8=.agg (hvals h))∧(l 2=true→s 9=.agg (hvals ({ h with pos:=8 })))∧(l 3=true→s 10=.agg (hvals h))∧(l 4=true→s 11=.agg (hvals (anew h)))∧(l 5=true→s 12=.tuple #[.agg (cvals x.1 (s 1003) (s 1004)),.agg (hvals x.2.1),.bool x.2.2]∧OCells wx lo (s 1003) x.1.cells∧OInts wx lo (s 1004) x.1.words∧Fresh w (.slice a1 c.cells.length q1) (s 1003)∧Fresh w (.slice a2 c.words.length q2) (s 1004))∧(l 6=true→s 13=.agg (cvals x.1 (s 1003) (s 1004)))∧(l 7=true→s 14=.agg (hvals x.2.1))∧(l 8=true→s 15=.bool x.2.2)∧(l 11=true→s 6=.bool x.2.2)) (by kernel_rfl) (by kernel_rfl) (by kernel_rfl) (fun s=>by (simp only [fill,fillA,List.setIfInBounds_toArray,List.set_cons_zero,List.set_cons_succ];rfl)) (fun s=>⟨by exact zB,by simp,by simp [go_sem],by simp [go_sem],by simp [go_sem],by simp [go_sem],by exact zO o1 o1,by exact zO o2 o2,fun h=>absurd h Bool.false_ne_true,fun h=>absurd h Bool.false_ne_true,fun h=>absurd h Bool.false_ne_true,fun h=>absurd h Bool.false_ne_true,fun h=>absurd h Bool.false_ne_true,fun h=>absurd h Bool.false_ne_true,fun h=>absurd h Bool.false_ne_true,fun h=>absurd h Bool.false_ne_true,fun h=>absurd h Bool.false_ne_true,fun h=>absurd h Bool.false_ne_true⟩) ?_ ?_
  refine ⟨?_,?_,?_,?_,?_,?_,?_,?_,?_,?_,?_,?_,trivial⟩;rotate_left 12
  · intro l s wx hall hf
    have hB:=hf.1
    have z1:=hf.2.2.2.2.1
    have z2:=hf.2.2.2.2.2.1
    rw [hall 9 rfl] at z1
    rw [hall 10 rfl] at z2
    dsimp only [cond] at z1 z2
    obtain ⟨_,X1,X2,F1,F2⟩:=(hf.2.2.2.2.2.2.2.2.2.2.2.2.2.1 (hall 5 rfl))
    have ec:=(hf.2.2.2.2.2.2.2.2.2.2.2.2.2.2.2.2.2 (hall 11 rfl))
    simp only [ec]
    clear ec hf hall
    go_wp2
    exact bodyPost_ret (res_cct Try.results90 rfl (ldChan x.1 _ _ z1) rfl (ldHand x.2.1 z2)) rfl ⟨⟨_,_,rfl,X1,X2,F1,F2⟩,onlB hB⟩
  · intro l s wx hl hd hn hf0 K hK
    have hf:=Lib.hid hf0
    clear hf0
    have zc:=hf.out.2.2.1
    go_simp
    refine hK.out (upd s 7 (.agg (cvals c (.slice a1 c.cells.length q1) (.slice a2 c.words.length q2)))) _ _ (by simp [upd_at] <;> rfl) ⟨hf.out.1,hf.out.2.1,hf.out.2.2.1,hf.out.2.2.2.1,hf.out.2.2.2.2.1,hf.out.2.2.2.2.2.1,hf.out.2.2.2.2.2.2.1,hf.out.2.2.2.2.2.2.2.1,fun _=>rfl,fun h=>(hf.out.2.2.2.2.2.2.2.2.2.1 h),fun h=>(hf.out.2.2.2.2.2.2.2.2.2.2.1 h),fun h=>(hf.out.2.2.2.2.2.2.2.2.2.2.2.1 h),fun h=>(hf.out.2.2.2.2.2.2.2.2.2.2.2.2.1 h),fun h=>absurd h (by rw [show upd l 0 true 5=l 5 from rfl,hn 5 rfl];exact Bool.false_ne_true),fun h=>absurd h (by rw [show upd l 0 true 6=l 6 from rfl,hn 6 rfl];exact Bool.false_ne_true),fun h=>absurd h (by rw [show upd l 0 true 7=l 7 from rfl,hn 7 rfl];exact Bool.false_ne_true),fun h=>absurd h (by rw [show upd l 0 true 8=l 8 from rfl,hn 8 rfl];exact Bool.false_ne_true),fun h=>absurd h (by rw [show upd l 0 true 11=l 11 from rfl,hn 11 rfl];exact Bool.false_ne_true)⟩
  · intro l s wx hl hd hn hf0 K hK
    have hf:=Lib.hid hf0
    clear hf0
    have zh:=hf.out.2.2.2.1
    go_simp
    refine hK.out (upd s 8 (.agg (hvals h))) _ _ (by simp [upd_at] <;> rfl) ⟨hf.out.1,hf.out.2.1,hf.out.2.2.1,hf.out.2.2.2.1,hf.out.2.2.2.2.1,hf.out.2.2.2.2.2.1,hf.out.2.2.2.2.2.2.1,hf.out.2.2.2.2.2.2.2.1,fun h=>(hf.out.2.2.2.2.2.2.2.2.1 h),fun _=>rfl,fun h=>absurd h (by rw [show upd l 1 true 2=l 2 from rfl,hn 2 rfl];exact Bool.false_ne_true),fun h=>(hf.out.2.2.2.2.2.2.2.2.2.2.2.1 h),fun h=>(hf.out.2.2.2.2.2.2.2.2.2.2.2.2.1 h),fun h=>absurd h (by rw [show upd l 1 true 5=l 5 from rfl,hn 5 rfl];exact Bool.false_ne_true),fun h=>absurd h (by rw [show upd l 1 true 6=l 6 from rfl,hn 6 rfl];exact Bool.false_ne_true),fun h=>absurd h (by rw [show upd l 1 true 7=l 7 from rfl,hn 7 rfl];exact Bool.false_ne_true),fun h=>absurd h (by rw [show upd l 1 true 8=l 8 from rfl,hn 8 rfl];exact Bool.false_ne_true),fun h=>absurd h (by rw [show upd l 1 true 11=l 11 from rfl,hn 11 rfl];exact Bool.false_ne_true)⟩
  · intro l s wx hl hd hn hf0 K hK
    have hf:=Lib.hid hf0
    clear hf0
    have e1:=(hf.out.2.2.2.2.2.2.2.2.2.1 (hd 1 rfl))
    go_simp
    go_at_call 66
    refine (moved_any h 8 _).mono ?_
    rintro _ wy ⟨rfl,hE⟩
    refine hK.out (upd s 9 (.agg (hvals ({ h with pos:=8 })))) _ _ (by simp [upd_at,e1] <;> rfl) ⟨bT hf.out.1 hE,Nat.le_trans hf.out.2.1 (Below.size hE),hpS hf.out.2.2.1 hE,hpS hf.out.2.2.2.1 hE,hpS hf.out.2.2.2.2.1 hE,hpS hf.out.2.2.2.2.2.1 hE,own_below hf.out.2.2.2.2.2.2.1 hE,own_below hf.out.2.2.2.2.2.2.2.1 hE,fun h=>(hf.out.2.2.2.2.2.2.2.2.1 h),fun h=>(hf.out.2.2.2.2.2.2.2.2.2.1 h),fun _=>rfl,fun h=>(hf.out.2.2.2.2.2.2.2.2.2.2.2.1 h),fun h=>(hf.out.2.2.2.2.2.2.2.2.2.2.2.2.1 h),fun h=>absurd h (by rw [show upd l 2 true 5=l 5 from rfl,hn 5 rfl];exact Bool.false_ne_true),fun h=>absurd h (by rw [show upd l 2 true 6=l 6 from rfl,hn 6 rfl];exact Bool.false_ne_true),fun h=>absurd h (by rw [show upd l 2 true 7=l 7 from rfl,hn 7 rfl];exact Bool.false_ne_true),fun h=>absurd h (by rw [show upd l 2 true 8=l 8 from rfl,hn 8 rfl];exact Bool.false_ne_true),fun h=>absurd h (by rw [show upd l 2 true 11=l 11 from rfl,hn 11 rfl];exact Bool.false_ne_true)⟩
  · intro l s wx hl hd hn hf0 K hK
    have hf:=Lib.hid hf0
    clear hf0
    have zh:=hf.out.2.2.2.1
    go_simp
    refine hK.out (upd s 10 (.agg (hvals h))) _ _ (by simp [upd_at] <;> rfl) ⟨hf.out.1,hf.out.2.1,hf.out.2.2.1,hf.out.2.2.2.1,hf.out.2.2.2.2.1,hf.out.2.2.2.2.2.1,hf.out.2.2.2.2.2.2.1,hf.out.2.2.2.2.2.2.2.1,fun h=>(hf.out.2.2.2.2.2.2.2.2.1 h),fun h=>(hf.out.2.2.2.2.2.2.2.2.2.1 h),fun h=>(hf.out.2.2.2.2.2.2.2.2.2.2.1 h),fun _=>rfl,fun h=>absurd h (by rw [show upd l 3 true 4=l 4 from rfl,hn 4 rfl];exact Bool.false_ne_true),fun h=>absurd h (by rw [show upd l 3 true 5=l 5 from rfl,hn 5 rfl];exact Bool.false_ne_true),fun h=>absurd h (by rw [show upd l 3 true 6=l 6 from rfl,hn 6 rfl];exact Bool.false_ne_true),fun h=>absurd h (by rw [show upd l 3 true 7=l 7 from rfl,hn 7 rfl];exact Bool.false_ne_true),fun h=>absurd h (by rw [show upd l 3 true 8=l 8 from rfl,hn 8 rfl];exact Bool.false_ne_true),fun h=>absurd h (by rw [show upd l 3 true 11=l 11 from rfl,hn 11 rfl];exact Bool.false_ne_true)⟩
  · intro l s wx hl hd hn hf0 K hK
    have hf:=Lib.hid hf0
    clear hf0
    have e3:=(hf.out.2.2.2.2.2.2.2.2.2.2.2.1 (hd 3 rfl))
    go_simp
    go_at_call 70
    refine (anew_any h hk _).mono ?_
    rintro _ wy ⟨rfl,hE⟩
    refine hK.out (upd s 11 (.agg (hvals (anew h)))) _ _ (by simp [upd_at,e3] <;> rfl) ⟨bT hf.out.1 hE,Nat.le_trans hf.out.2.1 (Below.size hE),hpS hf.out.2.2.1 hE,hpS hf.out.2.2.2.1 hE,hpS hf.out.2.2.2.2.1 hE,hpS hf.out.2.2.2.2.2.1 hE,own_below hf.out.2.2.2.2.2.2.1 hE,own_below hf.out.2.2.2.2.2.2.2.1 hE,fun h=>(hf.out.2.2.2.2.2.2.2.2.1 h),fun h=>(hf.out.2.2.2.2.2.2.2.2.2.1 h),fun h=>(hf.out.2.2.2.2.2.2.2.2.2.2.1 h),fun h=>(hf.out.2.2.2.2.2.2.2.2.2.2.2.1 h),fun _=>rfl,fun h=>absurd h (by rw [show upd l 4 true 5=l 5 from rfl,hn 5 rfl];exact Bool.false_ne_true),fun h=>absurd h (by rw [show upd l 4 true 6=l 6 from rfl,hn 6 rfl];exact Bool.false_ne_true),fun h=>absurd h (by rw [show upd l 4 true 7=l 7 from rfl,hn 7 rfl];exact Bool.false_ne_true),fun h=>absurd h (by rw [show upd l 4 true 8=l 8 from rfl,hn 8 rfl];exact Bool.false_ne_true),fun h=>absurd h (by rw [show upd l 4 true 11=l 11 from rfl,hn 11 rfl];exact Bool.false_ne_true)⟩
  · intro l s wx hl hd hn hf0 K hK
    have hf:=Lib.hid hf0
    clear hf0
    have e0:=(hf.out.2.2.2.2.2.2.2.2.1 (hd 0 rfl))
    have e2:=(hf.out.2.2.2.2.2.2.2.2.2.2.1 (hd 2 rfl))
    have e4:=(hf.out.2.2.2.2.2.2.2.2.2.2.2.2.1 (hd 4 rfl))
    go_simp
    go_at_call 68
    refine (T.out _ hf.out.2.2.2.2.2.2.1 hf.out.2.2.2.2.2.2.2.1 (Nat.le_trans hlo (Below.size hf.out.1))).mono ?_
    rintro _ wy ⟨⟨y1,y2,rfl,X1,X2,F1,F2⟩,hE⟩
    refine hK.out (upd (upd (upd s 1003 (y1)) 1004 (y2)) 12 (.tuple #[.agg (cvals x.1 y1 y2),.agg (hvals x.2.1),.bool x.2.2])) _ _ (by simp [upd_at,e0,e2,e4] <;> rfl) ⟨bT hf.out.1 hE,Nat.le_trans hf.out.2.1 (Below.size hE),hpS hf.out.2.2.1 hE,hpS hf.out.2.2.2.1 hE,by (have ee:l 9=false:=hn 9 rfl);(have F:=hf.out.2.2.2.2.1);rw [ee] at F;rw [show upd l 5 true 9=false from ee];exact hpS F hE,by (have ee:l 10=false:=hn 10 rfl);(have F:=hf.out.2.2.2.2.2.1);rw [ee] at F;rw [show upd l 5 true 10=false from ee];exact hpS F hE,own_below hf.out.2.2.2.2.2.2.1 hE,own_below hf.out.2.2.2.2.2.2.2.1 hE,fun h=>(hf.out.2.2.2.2.2.2.2.2.1 h),fun h=>(hf.out.2.2.2.2.2.2.2.2.2.1 h),fun h=>(hf.out.2.2.2.2.2.2.2.2.2.2.1 h),fun h=>(hf.out.2.2.2.2.2.2.2.2.2.2.2.1 h),fun h=>(hf.out.2.2.2.2.2.2.2.2.2.2.2.2.1 h),fun _=>⟨rfl,X1,X2,fun j hj=>(F1 j hj).imp id (fun h=>Nat.le_trans (Below.size hf.out.1) h),fun j hj=>(F2 j hj).imp id (fun h=>Nat.le_trans (Below.size hf.out.1) h)⟩,fun h=>absurd h (by rw [show upd l 5 true 6=l 6 from rfl,hn 6 rfl];exact Bool.false_ne_true),fun h=>absurd h (by rw [show upd l 5 true 7=l 7 from rfl,hn 7 rfl];exact Bool.false_ne_true),fun h=>absurd h (by rw [show upd l 5 true 8=l 8 from rfl,hn 8 rfl];exact Bool.false_ne_true),fun h=>absurd h (by rw [show upd l 5 true 11=l 11 from rfl,hn 11 rfl];exact Bool.false_ne_true)⟩
  · intro l s wx hl hd hn hf0 K hK
    have hf:=Lib.hid hf0
    clear hf0
    have e5:=(hf.out.2.2.2.2.2.2.2.2.2.2.2.2.2.1 (hd 5 rfl)).1
    go_simp
    refine hK.out (upd s 13 (.agg (cvals x.1 (s 1003) (s 1004)))) _ _ (by simp [upd_at,e5] <;> rfl) ⟨hf.out.1,hf.out.2.1,hf.out.2.2.1,hf.out.2.2.2.1,hf.out.2.2.2.2.1,hf.out.2.2.2.2.2.1,hf.out.2.2.2.2.2.2.1,hf.out.2.2.2.2.2.2.2.1,fun h=>(hf.out.2.2.2.2.2.2.2.2.1 h),fun h=>(hf.out.2.2.2.2.2.2.2.2.2.1 h),fun h=>(hf.out.2.2.2.2.2.2.2.2.2.2.1 h),fun h=>(hf.out.2.2.2.2.2.2.2.2.2.2.2.1 h),fun h=>(hf.out.2.2.2.2.2.2.2.2.2.2.2.2.1 h),fun h=>(hf.out.2.2.2.2.2.2.2.2.2.2.2.2.2.1 h),fun _=>rfl,fun h=>(hf.out.2.2.2.2.2.2.2.2.2.2.2.2.2.2.2.1 h),fun h=>(hf.out.2.2.2.2.2.2.2.2.2.2.2.2.2.2.2.2.1 h),fun h=>(hf.out.2.2.2.2.2.2.2.2.2.2.2.2.2.2.2.2.2 h)⟩
  · intro l s wx hl hd hn hf0 K hK
    have hf:=Lib.hid hf0
    clear hf0
    have e5:=(hf.out.2.2.2.2.2.2.2.2.2.2.2.2.2.1 (hd 5 rfl)).1
    go_simp
    refine hK.out (upd s 14 (.agg (hvals x.2.1))) _ _ (by simp [upd_at,e5] <;> rfl) ⟨hf.out.1,hf.out.2.1,hf.out.2.2.1,hf.out.2.2.2.1,hf.out.2.2.2.2.1,hf.out.2.2.2.2.2.1,hf.out.2.2.2.2.2.2.1,hf.out.2.2.2.2.2.2.2.1,fun h=>(hf.out.2.2.2.2.2.2.2.2.1 h),fun h=>(hf.out.2.2.2.2.2.2.2.2.2.1 h),fun h=>(hf.out.2.2.2.2.2.2.2.2.2.2.1 h),fun h=>(hf.out.2.2.2.2.2.2.2.2.2.2.2.1 h),fun h=>(hf.out.2.2.2.2.2.2.2.2.2.2.2.2.1 h),fun h=>(hf.out.2.2.2.2.2.2.2.2.2.2.2.2.2.1 h),fun h=>(hf.out.2.2.2.2.2.2.2.2.2.2.2.2.2.2.1 h),fun _=>rfl,fun h=>(hf.out.2.2.2.2.2.2.2.2.2.2.2.2.2.2.2.2.1 h),fun h=>(hf.out.2.2.2.2.2.2.2.2.2.2.2.2.2.2.2.2.2 h)⟩
  · intro l s wx hl hd hn hf0 K hK
    have hf:=Lib.hid hf0
    clear hf0
    have e5:=(hf.out.2.2.2.2.2.2.2.2.2.2.2.2.2.1 (hd 5 rfl)).1
    go_simp
    refine hK.out (upd s 15 (.bool x.2.2)) _ _ (by simp [upd_at,e5] <;> rfl) ⟨hf.out.1,hf.out.2.1,hf.out.2.2.1,hf.out.2.2.2.1,hf.out.2.2.2.2.1,hf.out.2.2.2.2.2.1,hf.out.2.2.2.2.2.2.1,hf.out.2.2.2.2.2.2.2.1,fun h=>(hf.out.2.2.2.2.2.2.2.2.1 h),fun h=>(hf.out.2.2.2.2.2.2.2.2.2.1 h),fun h=>(hf.out.2.2.2.2.2.2.2.2.2.2.1 h),fun h=>(hf.out.2.2.2.2.2.2.2.2.2.2.2.1 h),fun h=>(hf.out.2.2.2.2.2.2.2.2.2.2.2.2.1 h),fun h=>(hf.out.2.2.2.2.2.2.2.2.2.2.2.2.2.1 h),fun h=>(hf.out.2.2.2.2.2.2.2.2.2.2.2.2.2.2.1 h),fun h=>(hf.out.2.2.2.2.2.2.2.2.2.2.2.2.2.2.2.1 h),fun _=>rfl,fun h=>absurd h (by rw [show upd l 8 true 11=l 11 from rfl,hn 11 rfl];exact Bool.false_ne_true)⟩
  · intro l s wx hl hd hn hf0 K hK
    have hf:=Lib.hid hf0
    clear hf0
    have e6:=(hf.out.2.2.2.2.2.2.2.2.2.2.2.2.2.2.1 (hd 6 rfl))
    have e5:=(hf.out.2.2.2.2.2.2.2.2.2.2.2.2.2.1 (hd 5 rfl))
    have X1:=e5.2.1
    have X2:=e5.2.2.1
    clear e5
    have zr:=hf.out.2.2.2.2.1
    rw [hl] at zr
    dsimp only [cond] at zr
    obtain ⟨xa,xp,ea,_⟩:=X1.seg
    obtain ⟨xb,xq,eb2,_⟩:=X2.seg
    rw [ea,eb2] at e6
    have zn:hp (setBox wx (w.heap.size+1+1) (cvals x.1 (.slice xa x.1.cells.length xp) (.slice xb x.1.words.length xq))) (w.heap.size+1+1)=some (.cells (cvals x.1 (s 1003) (s 1004)) 33):=by rw [ea,eb2];exact hp_set zr
    have hB:=hf.out.1
    go_simp
    refine hK.out (s) _ _ (by simp [upd_at,e6,ea,eb2] <;> rfl) ⟨bBx hB (by omega),Nat.le_trans hf.out.2.1 (Nat.le_of_eq bx_size.symm),(bx_heap_ne (by omega)).trans hf.out.2.2.1,(bx_heap_ne (by omega)).trans hf.out.2.2.2.1,zn,(bx_heap_ne (by omega)).trans hf.out.2.2.2.2.2.1,own_far hf.out.2.2.2.2.2.2.1 zr (by decide),own_far hf.out.2.2.2.2.2.2.2.1 zr (by decide),fun h=>(hf.out.2.2.2.2.2.2.2.2.1 h),fun h=>(hf.out.2.2.2.2.2.2.2.2.2.1 h),fun h=>(hf.out.2.2.2.2.2.2.2.2.2.2.1 h),fun h=>(hf.out.2.2.2.2.2.2.2.2.2.2.2.1 h),fun h=>(hf.out.2.2.2.2.2.2.2.2.2.2.2.2.1 h),fun h=>(let ⟨e,X1,X2,F1,F2⟩:=hf.out.2.2.2.2.2.2.2.2.2.2.2.2.2.1 h;⟨e,own_far X1 zr (by decide),own_far X2 zr (by decide),F1,F2⟩),fun h=>(hf.out.2.2.2.2.2.2.2.2.2.2.2.2.2.2.1 h),fun h=>(hf.out.2.2.2.2.2.2.2.2.2.2.2.2.2.2.2.1 h),fun h=>(hf.out.2.2.2.2.2.2.2.2.2.2.2.2.2.2.2.2.1 h),fun h=>(hf.out.2.2.2.2.2.2.2.2.2.2.2.2.2.2.2.2.2 h)⟩
  · intro l s wx hl hd hn hf0 K hK
    have hf:=Lib.hid hf0
    clear hf0
    have e7:=(hf.out.2.2.2.2.2.2.2.2.2.2.2.2.2.2.2.1 (hd 7 rfl))
    have e5:=(hf.out.2.2.2.2.2.2.2.2.2.2.2.2.2.1 (hd 5 rfl))
    have X1:=e5.2.1
    have X2:=e5.2.2.1
    clear e5
    have zr:=hf.out.2.2.2.2.2.1
    rw [hl] at zr
    dsimp only [cond] at zr
    have zn:hp (setBox wx (w.heap.size+1+1+1) (hvals x.2.1)) (w.heap.size+1+1+1)=some (.cells (hvals x.2.1) 36):=by exact hp_set zr
    have hB:=hf.out.1
    go_simp
    refine hK.out (s) _ _ (by simp [upd_at,e7] <;> rfl) ⟨bBx hB (by omega),Nat.le_trans hf.out.2.1 (Nat.le_of_eq bx_size.symm),(bx_heap_ne (by omega)).trans hf.out.2.2.1,(bx_heap_ne (by omega)).trans hf.out.2.2.2.1,(bx_heap_ne (by omega)).trans hf.out.2.2.2.2.1,zn,own_far hf.out.2.2.2.2.2.2.1 zr (by decide),own_far hf.out.2.2.2.2.2.2.2.1 zr (by decide),fun h=>(hf.out.2.2.2.2.2.2.2.2.1 h),fun h=>(hf.out.2.2.2.2.2.2.2.2.2.1 h),fun h=>(hf.out.2.2.2.2.2.2.2.2.2.2.1 h),fun h=>(hf.out.2.2.2.2.2.2.2.2.2.2.2.1 h),fun h=>(hf.out.2.2.2.2.2.2.2.2.2.2.2.2.1 h),fun h=>(let ⟨e,X1,X2,F1,F2⟩:=hf.out.2.2.2.2.2.2.2.2.2.2.2.2.2.1 h;⟨e,own_far X1 zr (by decide),own_far X2 zr (by decide),F1,F2⟩),fun h=>(hf.out.2.2.2.2.2.2.2.2.2.2.2.2.2.2.1 h),fun h=>(hf.out.2.2.2.2.2.2.2.2.2.2.2.2.2.2.2.1 h),fun h=>(hf.out.2.2.2.2.2.2.2.2.2.2.2.2.2.2.2.2.1 h),fun h=>(hf.out.2.2.2.2.2.2.2.2.2.2.2.2.2.2.2.2.2 h)⟩
  · intro l s wx hl hd hn hf0 K hK
    have hf:=Lib.hid hf0
    clear hf0
    have e8:=(hf.out.2.2.2.2.2.2.2.2.2.2.2.2.2.2.2.2.1 (hd 8 rfl))
    go_simp
    refine hK.out (upd s 6 (.bool x.2.2)) _ _ (by simp [upd_at,e8] <;> rfl) ⟨hf.out.1,hf.out.2.1,hf.out.2.2.1,hf.out.2.2.2.1,hf.out.2.2.2.2.1,hf.out.2.2.2.2.2.1,hf.out.2.2.2.2.2.2.1,hf.out.2.2.2.2.2.2.2.1,fun h=>(hf.out.2.2.2.2.2.2.2.2.1 h),fun h=>(hf.out.2.2.2.2.2.2.2.2.2.1 h),fun h=>(hf.out.2.2.2.2.2.2.2.2.2.2.1 h),fun h=>(hf.out.2.2.2.2.2.2.2.2.2.2.2.1 h),fun h=>(hf.out.2.2.2.2.2.2.2.2.2.2.2.2.1 h),fun h=>(hf.out.2.2.2.2.2.2.2.2.2.2.2.2.2.1 h),fun h=>(hf.out.2.2.2.2.2.2.2.2.2.2.2.2.2.2.1 h),fun h=>(hf.out.2.2.2.2.2.2.2.2.2.2.2.2.2.2.2.1 h),fun h=>(hf.out.2.2.2.2.2.2.2.2.2.2.2.2.2.2.2.2.1 h),fun _=>rfl⟩
end Go.Proofs.Ytajopaegmocnlaa
set_option linter.unusedSimpArgs false
set_option linter.unusedVariables false
namespace Go.Proofs.Ytajopaegmocnlaa
open Go.RowKit
set_option linter.unusedSimpArgs false
attribute [local simp] bx_size
attribute [local go_sem ↓] zeroHand zeroChan toLHand toLChan toVHand toVChan storeHand storeChan storeHandC storeChanC
def putK (h:Ha):Bool:=h.seen == 1 || (h.seen == 0 && decide (h.cell<(if h.come<h.fin then h.fin else h.come)))
def putS (c:Ch) (h:Ha):St:=if putK h then keep6 c h else if h.seen == 0 then wt6 c h else nothing
set_option maxRecDepth 100000 in
set_option maxHeartbeats 2000000 in
theorem sendKeep_any (c:Ch) (h:Ha) (v1 v2:Value) (lo:Nat) (w:World) (h1:OCells w lo v1 c.cells) (h2:OInts w lo v2 c.words) (hc0:0≤h.cell) (hc1:h.cell<c.cells.length) :
    Calls Try.prog 102 #[.agg (cvals c v1 v2),.agg (hvals h)] w fun r w'=>StepO w w' lo v1 v2 (keep6 c h) r:=by
  cases ht:turnCB c h.cell h.seen 2 0 with
  | true =>
    rw [show keep6 c h=(turnC c h.cell h.seen 2 0,resting 1 0,true) by simp [keep6,ht]]
    exact sendKeep_yes c h v1 v2 lo w h1 h2 hc0 hc1 ht
  | false =>
    rw [show keep6 c h=(c,{ h with pos:=3 },true) by simp [keep6,ht]]
    exact sendKeep_no c h v1 v2 lo w h1 h2 hc0 hc1 ht
set_option maxRecDepth 100000 in
set_option maxHeartbeats 2000000 in
theorem sendPut_1 (c:Ch) (h:Ha) (v1 v2:Value) (lo:Nat) (w:World) (h1:OCells w lo v1 c.cells) (h2:OInts w lo v2 c.words) (hc0:0≤h.cell) (hc1:h.cell<c.cells.length) (hs:(h.seen == 1)=true) :
    Calls Try.prog 89 #[.agg (cvals c v1 v2),.agg (hvals h)] w fun r w'=>StepO w w' lo v1 v2 (putS c h) r:=by
  have e:putS c h=keep6 c h:=by simp [putS,putK,hs]
  have T:=Lib.hid fun W a b=>sendKeep_any c h v1 v2 lo W a b hc0 hc1
  rw [← e] at T
  generalize putS c h=x at *
  clear e hc0 hc1
  have b1:=fun j (hj:v1.ownBlock=some j)=>(h1.lt j hj).2
  have b2:=fun j (hj:v2.ownBlock=some j)=>(h2.lt j hj).2
  have m1:∀ j,w.heap.size≤j→some j≠v1.ownBlock:=fun j hj e=>by have:=b1 _ e.symm;omega
  have m2:∀ j,w.heap.size≤j→some j≠v2.ownBlock:=fun j hj e=>by have:=b2 _ e.symm;omega
  have m10:=m1 (w.heap.size) (by omega)
  have m11:=m1 (w.heap.size+1) (by omega)
  have m12:=m1 (w.heap.size+1+1) (by omega)
  have m13:=m1 (w.heap.size+1+1+1) (by omega)
  have m20:=m2 (w.heap.size) (by omega)
  have m21:=m2 (w.heap.size+1) (by omega)
  have m22:=m2 (w.heap.size+1+1) (by omega)
  have m23:=m2 (w.heap.size+1+1+1) (by omega)
  have o1:=h1
  have o2:=h2
  obtain ⟨a1,q1,e1,_⟩:=h1.seg
  obtain ⟨a2,q2,e2,_⟩:=h2.seg
  subst e1 e2
  clear h1 h2
  go_enter Try.func89,Try.ntmps89
  go_wp2_with fail
  refine (T.out _ (by exact zO o1 o1) (by exact zO o2 o2)).mono ?_
  rintro _ w3 ⟨⟨y1,y2,rfl,oY1,oY2,fY1,fY2⟩,hO⟩
  have hO3:Onl (Value.slice a1 c.cells.length q1).ownBlock (Value.slice a2 c.words.length q2).ownBlock w w3:=onlT (onlB (by exact zB)) hO
  have hsw3:=hO.2.2.2.1;(try (simp at hsw3));have zz:=And.intro (onlHp hO (i:=w.heap.size+1+1+1) (by (try simp) <;> omega) (by assumption) (by assumption)) <| And.intro (onlHp hO (i:=w.heap.size+1+1) (by (try simp) <;> omega) (by assumption) (by assumption)) <| And.intro (onlHp hO (i:=w.heap.size+1) (by (try simp) <;> omega) (by assumption) (by assumption)) <| onlHp hO (i:=w.heap.size) (by (try simp) <;> omega) (by assumption) (by assumption);(try simp [go_sem] at zz);(try clear z_wppp x_wppp f_wppp l_wppp);(try clear z_wpp x_wpp f_wpp l_wpp);(try clear z_wp x_wp f_wp l_wp);(try clear z_w x_w f_w l_w);obtain ⟨z_wppp,z_wpp,z_wp,z_w⟩:=zz;obtain ⟨x_wppp,f_wppp,l_wppp⟩:=bO z_wppp;obtain ⟨x_wpp,f_wpp,l_wpp⟩:=bO z_wpp;obtain ⟨x_wp,f_wp,l_wp⟩:=bO z_wp;obtain ⟨x_w,f_w,l_w⟩:=bO z_w
  clear hO
  have hoff1:∀ j,w.heap.size≤j→j<w.heap.size+1+1+1+1→y1.ownBlock≠some j:=fun j h1 h2=>fY1.off b1 h1 (by (try simp) <;> omega);have hoff2:∀ j,w.heap.size≤j→j<w.heap.size+1+1+1+1→y2.ownBlock≠some j:=fun j h1 h2=>fY2.off b2 h1 (by (try simp) <;> omega);have fr1:Fresh w _ y1:=fun j hj=>(fY1 j hj).imp id (fun h=>Nat.le_trans (by (try simp) <;> omega) h);have fr2:Fresh w _ y2:=fun j hj=>(fY2 j hj).imp id (fun h=>Nat.le_trans (by (try simp) <;> omega) h);obtain ⟨ya,yp,rfl,_⟩:=oY1.seg;obtain ⟨yb,yq,rfl,_⟩:=oY2.seg
  go_wp2
  refine bodyPost_ret (res_cct Try.results89 rfl (ldChan x.1 (.slice ya x.1.cells.length yp) (.slice yb x.1.words.length yq) (by simp [go_sem, *])) rfl (ldHand x.2.1 (by simp [go_sem, *]))) rfl ⟨⟨_,_,rfl,?_,?_,fr1,fr2⟩,by (repeat (first|with_reducible assumption|with_reducible refine oA ?_|with_reducible refine oD ?_|((with_reducible refine oX ?_ ?_);rotate_left;(focus ((try dsimp only);(try simp);(try omega))))|((with_reducible refine oS ?_ ?_);rotate_left;(focus ((try dsimp only);(try simp);(try omega))))))⟩
  · exact zP oY1 oY1 hoff1
  · exact zP oY2 oY2 hoff2
set_option maxRecDepth 100000 in
set_option maxHeartbeats 2000000 in
theorem sendPut_2a (c:Ch) (h:Ha) (v1 v2:Value) (lo:Nat) (w:World) (h1:OCells w lo v1 c.cells) (h2:OInts w lo v2 c.words) (hc0:0≤h.cell) (hc1:h.cell<c.cells.length) (hn:(h.seen == 1)=false) (hs:(h.seen == 0)=true) (hcf:h.come<h.fin) (hx:h.cell<h.fin) :
    Calls Try.prog 89 #[.agg (cvals c v1 v2),.agg (hvals h)] w fun r w'=>StepO w w' lo v1 v2 (putS c h) r:=by
  have e:putS c h=keep6 c h:=by simp [putS,putK,hs,hcf,hx]
  have T:=Lib.hid fun W a b=>sendKeep_any c h v1 v2 lo W a b hc0 hc1
  rw [← e] at T
  generalize putS c h=x at *
  clear e hc0 hc1
  have b1:=fun j (hj:v1.ownBlock=some j)=>(h1.lt j hj).2
  have b2:=fun j (hj:v2.ownBlock=some j)=>(h2.lt j hj).2
  have m1:∀ j,w.heap.size≤j→some j≠v1.ownBlock:=fun j hj e=>by have:=b1 _ e.symm;omega
  have m2:∀ j,w.heap.size≤j→some j≠v2.ownBlock:=fun j hj e=>by have:=b2 _ e.symm;omega
  have m10:=m1 (w.heap.size) (by omega)
  have m11:=m1 (w.heap.size+1) (by omega)
  have m12:=m1 (w.heap.size+1+1) (by omega)
  have m13:=m1 (w.heap.size+1+1+1) (by omega)
  have m20:=m2 (w.heap.size) (by omega)
  have m21:=m2 (w.heap.size+1) (by omega)
  have m22:=m2 (w.heap.size+1+1) (by omega)
  have m23:=m2 (w.heap.size+1+1+1) (by omega)
  have o1:=h1
  have o2:=h2
  obtain ⟨a1,q1,e1,_⟩:=h1.seg
  obtain ⟨a2,q2,e2,_⟩:=h2.seg
  subst e1 e2
  clear h1 h2
  go_enter Try.func89,Try.ntmps89
  go_wp2_with fail
  refine (T.out _ (by exact zO o1 o1) (by exact zO o2 o2)).mono ?_
  rintro _ w3 ⟨⟨y1,y2,rfl,oY1,oY2,fY1,fY2⟩,hO⟩
  have hO3:Onl (Value.slice a1 c.cells.length q1).ownBlock (Value.slice a2 c.words.length q2).ownBlock w w3:=onlT (onlB (by exact zB)) hO
  have hsw3:=hO.2.2.2.1;(try (simp at hsw3));have zz:=And.intro (onlHp hO (i:=w.heap.size+1+1+1) (by (try simp) <;> omega) (by assumption) (by assumption)) <| And.intro (onlHp hO (i:=w.heap.size+1+1) (by (try simp) <;> omega) (by assumption) (by assumption)) <| And.intro (onlHp hO (i:=w.heap.size+1) (by (try simp) <;> omega) (by assumption) (by assumption)) <| onlHp hO (i:=w.heap.size) (by (try simp) <;> omega) (by assumption) (by assumption);(try simp [go_sem] at zz);(try clear z_wppp x_wppp f_wppp l_wppp);(try clear z_wpp x_wpp f_wpp l_wpp);(try clear z_wp x_wp f_wp l_wp);(try clear z_w x_w f_w l_w);obtain ⟨z_wppp,z_wpp,z_wp,z_w⟩:=zz;obtain ⟨x_wppp,f_wppp,l_wppp⟩:=bO z_wppp;obtain ⟨x_wpp,f_wpp,l_wpp⟩:=bO z_wpp;obtain ⟨x_wp,f_wp,l_wp⟩:=bO z_wp;obtain ⟨x_w,f_w,l_w⟩:=bO z_w
  clear hO
  have hoff1:∀ j,w.heap.size≤j→j<w.heap.size+1+1+1+1→y1.ownBlock≠some j:=fun j h1 h2=>fY1.off b1 h1 (by (try simp) <;> omega);have hoff2:∀ j,w.heap.size≤j→j<w.heap.size+1+1+1+1→y2.ownBlock≠some j:=fun j h1 h2=>fY2.off b2 h1 (by (try simp) <;> omega);have fr1:Fresh w _ y1:=fun j hj=>(fY1 j hj).imp id (fun h=>Nat.le_trans (by (try simp) <;> omega) h);have fr2:Fresh w _ y2:=fun j hj=>(fY2 j hj).imp id (fun h=>Nat.le_trans (by (try simp) <;> omega) h);obtain ⟨ya,yp,rfl,_⟩:=oY1.seg;obtain ⟨yb,yq,rfl,_⟩:=oY2.seg
  go_wp2
  refine bodyPost_ret (res_cct Try.results89 rfl (ldChan x.1 (.slice ya x.1.cells.length yp) (.slice yb x.1.words.length yq) (by simp [go_sem, *])) rfl (ldHand x.2.1 (by simp [go_sem, *]))) rfl ⟨⟨_,_,rfl,?_,?_,fr1,fr2⟩,by (repeat (first|with_reducible assumption|with_reducible refine oA ?_|with_reducible refine oD ?_|((with_reducible refine oX ?_ ?_);rotate_left;(focus ((try dsimp only);(try simp);(try omega))))|((with_reducible refine oS ?_ ?_);rotate_left;(focus ((try dsimp only);(try simp);(try omega))))))⟩
  · exact zP oY1 oY1 hoff1
  · exact zP oY2 oY2 hoff2
set_option maxRecDepth 100000 in
set_option maxHeartbeats 2000000 in
theorem sendPut_2b (c:Ch) (h:Ha) (v1 v2:Value) (lo:Nat) (w:World) (h1:OCells w lo v1 c.cells) (h2:OInts w lo v2 c.words) (hc0:0≤h.cell) (hc1:h.cell<c.cells.length) (hn:(h.seen == 1)=false) (hs:(h.seen == 0)=true) (hcf:¬ h.come<h.fin) (hx:h.cell<h.come) :
    Calls Try.prog 89 #[.agg (cvals c v1 v2),.agg (hvals h)] w fun r w'=>StepO w w' lo v1 v2 (putS c h) r:=by
  have e:putS c h=keep6 c h:=by simp [putS,putK,hs,hcf,hx]
  have T:=Lib.hid fun W a b=>sendKeep_any c h v1 v2 lo W a b hc0 hc1
  rw [← e] at T
  generalize putS c h=x at *
  clear e hc0 hc1
  have b1:=fun j (hj:v1.ownBlock=some j)=>(h1.lt j hj).2
  have b2:=fun j (hj:v2.ownBlock=some j)=>(h2.lt j hj).2
  have m1:∀ j,w.heap.size≤j→some j≠v1.ownBlock:=fun j hj e=>by have:=b1 _ e.symm;omega
  have m2:∀ j,w.heap.size≤j→some j≠v2.ownBlock:=fun j hj e=>by have:=b2 _ e.symm;omega
  have m10:=m1 (w.heap.size) (by omega)
  have m11:=m1 (w.heap.size+1) (by omega)
  have m12:=m1 (w.heap.size+1+1) (by omega)
  have m13:=m1 (w.heap.size+1+1+1) (by omega)
  have m20:=m2 (w.heap.size) (by omega)
  have m21:=m2 (w.heap.size+1) (by omega)
  have m22:=m2 (w.heap.size+1+1) (by omega)
  have m23:=m2 (w.heap.size+1+1+1) (by omega)
  have o1:=h1
  have o2:=h2
  obtain ⟨a1,q1,e1,_⟩:=h1.seg
  obtain ⟨a2,q2,e2,_⟩:=h2.seg
  subst e1 e2
  clear h1 h2
  go_enter Try.func89,Try.ntmps89
  go_wp2_with fail
  refine (T.out _ (by exact zO o1 o1) (by exact zO o2 o2)).mono ?_
  rintro _ w3 ⟨⟨y1,y2,rfl,oY1,oY2,fY1,fY2⟩,hO⟩
  have hO3:Onl (Value.slice a1 c.cells.length q1).ownBlock (Value.slice a2 c.words.length q2).ownBlock w w3:=onlT (onlB (by exact zB)) hO
  have hsw3:=hO.2.2.2.1;(try (simp at hsw3));have zz:=And.intro (onlHp hO (i:=w.heap.size+1+1+1) (by (try simp) <;> omega) (by assumption) (by assumption)) <| And.intro (onlHp hO (i:=w.heap.size+1+1) (by (try simp) <;> omega) (by assumption) (by assumption)) <| And.intro (onlHp hO (i:=w.heap.size+1) (by (try simp) <;> omega) (by assumption) (by assumption)) <| onlHp hO (i:=w.heap.size) (by (try simp) <;> omega) (by assumption) (by assumption);(try simp [go_sem] at zz);(try clear z_wppp x_wppp f_wppp l_wppp);(try clear z_wpp x_wpp f_wpp l_wpp);(try clear z_wp x_wp f_wp l_wp);(try clear z_w x_w f_w l_w);obtain ⟨z_wppp,z_wpp,z_wp,z_w⟩:=zz;obtain ⟨x_wppp,f_wppp,l_wppp⟩:=bO z_wppp;obtain ⟨x_wpp,f_wpp,l_wpp⟩:=bO z_wpp;obtain ⟨x_wp,f_wp,l_wp⟩:=bO z_wp;obtain ⟨x_w,f_w,l_w⟩:=bO z_w
  clear hO
  have hoff1:∀ j,w.heap.size≤j→j<w.heap.size+1+1+1+1→y1.ownBlock≠some j:=fun j h1 h2=>fY1.off b1 h1 (by (try simp) <;> omega);have hoff2:∀ j,w.heap.size≤j→j<w.heap.size+1+1+1+1→y2.ownBlock≠some j:=fun j h1 h2=>fY2.off b2 h1 (by (try simp) <;> omega);have fr1:Fresh w _ y1:=fun j hj=>(fY1 j hj).imp id (fun h=>Nat.le_trans (by (try simp) <;> omega) h);have fr2:Fresh w _ y2:=fun j hj=>(fY2 j hj).imp id (fun h=>Nat.le_trans (by (try simp) <;> omega) h);obtain ⟨ya,yp,rfl,_⟩:=oY1.seg;obtain ⟨yb,yq,rfl,_⟩:=oY2.seg
  go_wp2
  refine bodyPost_ret (res_cct Try.results89 rfl (ldChan x.1 (.slice ya x.1.cells.length yp) (.slice yb x.1.words.length yq) (by simp [go_sem, *])) rfl (ldHand x.2.1 (by simp [go_sem, *]))) rfl ⟨⟨_,_,rfl,?_,?_,fr1,fr2⟩,by (repeat (first|with_reducible assumption|with_reducible refine oA ?_|with_reducible refine oD ?_|((with_reducible refine oX ?_ ?_);rotate_left;(focus ((try dsimp only);(try simp);(try omega))))|((with_reducible refine oS ?_ ?_);rotate_left;(focus ((try dsimp only);(try simp);(try omega))))))⟩
  · exact zP oY1 oY1 hoff1
  · exact zP oY2 oY2 hoff2
set_option maxRecDepth 100000 in
set_option maxHeartbeats 2000000 in
theorem sendPut_3a (c:Ch) (h:Ha) (v1 v2:Value) (lo:Nat) (w:World) (h1:OCells w lo v1 c.cells) (h2:OInts w lo v2 c.words) (hc0:0≤h.cell) (hc1:h.cell<c.cells.length) (hc:chanOk c=true) (hlo:lo≤w.heap.size) (hn:(h.seen == 1)=false) (hs:(h.seen == 0)=true) (hcf:h.come<h.fin) (hx:¬ h.cell<h.fin) :
    Calls Try.prog 89 #[.agg (cvals c v1 v2),.agg (hvals h)] w fun r w'=>StepO w w' lo v1 v2 (putS c h) r:=by
  have e:putS c h=wt6 c h:=by
    have hx2:(decide (h.cell<(if h.come<h.fin then h.fin else h.come)))=false:=by simp only [hcf,if_true,if_false];simpa using hx
    simp only [putS,putK,hn,hs,hx2,Bool.false_or,Bool.and_false,Bool.true_and,if_true]
    rfl
  have T:=Lib.hid fun W a b hl=>sendWait_any c h v1 v2 lo W a b hc0 hc1 hc hl
  rw [← e] at T
  generalize putS c h=x at *
  clear e hc0 hc1
  have b1:=fun j (hj:v1.ownBlock=some j)=>(h1.lt j hj).2
  have b2:=fun j (hj:v2.ownBlock=some j)=>(h2.lt j hj).2
  have m1:∀ j,w.heap.size≤j→some j≠v1.ownBlock:=fun j hj e=>by have:=b1 _ e.symm;omega
  have m2:∀ j,w.heap.size≤j→some j≠v2.ownBlock:=fun j hj e=>by have:=b2 _ e.symm;omega
  have m10:=m1 (w.heap.size) (by omega)
  have m11:=m1 (w.heap.size+1) (by omega)
  have m12:=m1 (w.heap.size+1+1) (by omega)
  have m13:=m1 (w.heap.size+1+1+1) (by omega)
  have m20:=m2 (w.heap.size) (by omega)
  have m21:=m2 (w.heap.size+1) (by omega)
  have m22:=m2 (w.heap.size+1+1) (by omega)
  have m23:=m2 (w.heap.size+1+1+1) (by omega)
  have o1:=h1
  have o2:=h2
  obtain ⟨a1,q1,e1,_⟩:=h1.seg
  obtain ⟨a2,q2,e2,_⟩:=h2.seg
  subst e1 e2
  clear h1 h2
  go_enter Try.func89,Try.ntmps89
  go_wp2_with fail
  refine (T.out _ (by exact zO o1 o1) (by exact zO o2 o2) (by simp;omega)).mono ?_
  rintro _ w3 ⟨⟨y1,y2,rfl,oY1,oY2,fY1,fY2⟩,hO⟩
  have hO3:Onl (Value.slice a1 c.cells.length q1).ownBlock (Value.slice a2 c.words.length q2).ownBlock w w3:=onlT (onlB (by exact zB)) hO
  have hsw3:=hO.2.2.2.1;(try (simp at hsw3));have zz:=And.intro (onlHp hO (i:=w.heap.size+1+1+1) (by (try simp) <;> omega) (by assumption) (by assumption)) <| And.intro (onlHp hO (i:=w.heap.size+1+1) (by (try simp) <;> omega) (by assumption) (by assumption)) <| And.intro (onlHp hO (i:=w.heap.size+1) (by (try simp) <;> omega) (by assumption) (by assumption)) <| onlHp hO (i:=w.heap.size) (by (try simp) <;> omega) (by assumption) (by assumption);(try simp [go_sem] at zz);(try clear z_wppp x_wppp f_wppp l_wppp);(try clear z_wpp x_wpp f_wpp l_wpp);(try clear z_wp x_wp f_wp l_wp);(try clear z_w x_w f_w l_w);obtain ⟨z_wppp,z_wpp,z_wp,z_w⟩:=zz;obtain ⟨x_wppp,f_wppp,l_wppp⟩:=bO z_wppp;obtain ⟨x_wpp,f_wpp,l_wpp⟩:=bO z_wpp;obtain ⟨x_wp,f_wp,l_wp⟩:=bO z_wp;obtain ⟨x_w,f_w,l_w⟩:=bO z_w
  clear hO
  have hoff1:∀ j,w.heap.size≤j→j<w.heap.size+1+1+1+1→y1.ownBlock≠some j:=fun j h1 h2=>fY1.off b1 h1 (by (try simp) <;> omega);have hoff2:∀ j,w.heap.size≤j→j<w.heap.size+1+1+1+1→y2.ownBlock≠some j:=fun j h1 h2=>fY2.off b2 h1 (by (try simp) <;> omega);have fr1:Fresh w _ y1:=fun j hj=>(fY1 j hj).imp id (fun h=>Nat.le_trans (by (try simp) <;> omega) h);have fr2:Fresh w _ y2:=fun j hj=>(fY2 j hj).imp id (fun h=>Nat.le_trans (by (try simp) <;> omega) h);obtain ⟨ya,yp,rfl,_⟩:=oY1.seg;obtain ⟨yb,yq,rfl,_⟩:=oY2.seg
  go_wp2
  refine bodyPost_ret (res_cct Try.results89 rfl (ldChan x.1 (.slice ya x.1.cells.length yp) (.slice yb x.1.words.length yq) (by simp [go_sem, *])) rfl (ldHand x.2.1 (by simp [go_sem, *]))) rfl ⟨⟨_,_,rfl,?_,?_,fr1,fr2⟩,by (repeat (first|with_reducible assumption|with_reducible refine oA ?_|with_reducible refine oD ?_|((with_reducible refine oX ?_ ?_);rotate_left;(focus ((try dsimp only);(try simp);(try omega))))|((with_reducible refine oS ?_ ?_);rotate_left;(focus ((try dsimp only);(try simp);(try omega))))))⟩
  · exact zP oY1 oY1 hoff1
  · exact zP oY2 oY2 hoff2
set_option maxRecDepth 100000 in
set_option maxHeartbeats 2000000 in
theorem sendPut_3b (c:Ch) (h:Ha) (v1 v2:Value) (lo:Nat) (w:World) (h1:OCells w lo v1 c.cells) (h2:OInts w lo v2 c.words) (hc0:0≤h.cell) (hc1:h.cell<c.cells.length) (hc:chanOk c=true) (hlo:lo≤w.heap.size) (hn:(h.seen == 1)=false) (hs:(h.seen == 0)=true) (hcf:¬ h.come<h.fin) (hx:¬ h.cell<h.come) :
    Calls Try.prog 89 #[.agg (cvals c v1 v2),.agg (hvals h)] w fun r w'=>StepO w w' lo v1 v2 (putS c h) r:=by
  have e:putS c h=wt6 c h:=by
    have hx2:(decide (h.cell<(if h.come<h.fin then h.fin else h.come)))=false:=by simp only [hcf,if_true,if_false];simpa using hx
    simp only [putS,putK,hn,hs,hx2,Bool.false_or,Bool.and_false,Bool.true_and,if_true]
    rfl
  have T:=Lib.hid fun W a b hl=>sendWait_any c h v1 v2 lo W a b hc0 hc1 hc hl
  rw [← e] at T
  generalize putS c h=x at *
  clear e hc0 hc1
  have b1:=fun j (hj:v1.ownBlock=some j)=>(h1.lt j hj).2
  have b2:=fun j (hj:v2.ownBlock=some j)=>(h2.lt j hj).2
  have m1:∀ j,w.heap.size≤j→some j≠v1.ownBlock:=fun j hj e=>by have:=b1 _ e.symm;omega
  have m2:∀ j,w.heap.size≤j→some j≠v2.ownBlock:=fun j hj e=>by have:=b2 _ e.symm;omega
  have m10:=m1 (w.heap.size) (by omega)
  have m11:=m1 (w.heap.size+1) (by omega)
  have m12:=m1 (w.heap.size+1+1) (by omega)
  have m13:=m1 (w.heap.size+1+1+1) (by omega)
  have m20:=m2 (w.heap.size) (by omega)
  have m21:=m2 (w.heap.size+1) (by omega)
  have m22:=m2 (w.heap.size+1+1) (by omega)
  have m23:=m2 (w.heap.size+1+1+1) (by omega)
  have o1:=h1
  have o2:=h2
  obtain ⟨a1,q1,e1,_⟩:=h1.seg
  obtain ⟨a2,q2,e2,_⟩:=h2.seg
  subst e1 e2
  clear h1 h2
  go_enter Try.func89,Try.ntmps89
  go_wp2_with fail
  refine (T.out _ (by exact zO o1 o1) (by exact zO o2 o2) (by simp;omega)).mono ?_
  rintro _ w3 ⟨⟨y1,y2,rfl,oY1,oY2,fY1,fY2⟩,hO⟩
  have hO3:Onl (Value.slice a1 c.cells.length q1).ownBlock (Value.slice a2 c.words.length q2).ownBlock w w3:=onlT (onlB (by exact zB)) hO
  have hsw3:=hO.2.2.2.1;(try (simp at hsw3));have zz:=And.intro (onlHp hO (i:=w.heap.size+1+1+1) (by (try simp) <;> omega) (by assumption) (by assumption)) <| And.intro (onlHp hO (i:=w.heap.size+1+1) (by (try simp) <;> omega) (by assumption) (by assumption)) <| And.intro (onlHp hO (i:=w.heap.size+1) (by (try simp) <;> omega) (by assumption) (by assumption)) <| onlHp hO (i:=w.heap.size) (by (try simp) <;> omega) (by assumption) (by assumption);(try simp [go_sem] at zz);(try clear z_wppp x_wppp f_wppp l_wppp);(try clear z_wpp x_wpp f_wpp l_wpp);(try clear z_wp x_wp f_wp l_wp);(try clear z_w x_w f_w l_w);obtain ⟨z_wppp,z_wpp,z_wp,z_w⟩:=zz;obtain ⟨x_wppp,f_wppp,l_wppp⟩:=bO z_wppp;obtain ⟨x_wpp,f_wpp,l_wpp⟩:=bO z_wpp;obtain ⟨x_wp,f_wp,l_wp⟩:=bO z_wp;obtain ⟨x_w,f_w,l_w⟩:=bO z_w
  clear hO
  have hoff1:∀ j,w.heap.size≤j→j<w.heap.size+1+1+1+1→y1.ownBlock≠some j:=fun j h1 h2=>fY1.off b1 h1 (by (try simp) <;> omega);have hoff2:∀ j,w.heap.size≤j→j<w.heap.size+1+1+1+1→y2.ownBlock≠some j:=fun j h1 h2=>fY2.off b2 h1 (by (try simp) <;> omega);have fr1:Fresh w _ y1:=fun j hj=>(fY1 j hj).imp id (fun h=>Nat.le_trans (by (try simp) <;> omega) h);have fr2:Fresh w _ y2:=fun j hj=>(fY2 j hj).imp id (fun h=>Nat.le_trans (by (try simp) <;> omega) h);obtain ⟨ya,yp,rfl,_⟩:=oY1.seg;obtain ⟨yb,yq,rfl,_⟩:=oY2.seg
  go_wp2
  refine bodyPost_ret (res_cct Try.results89 rfl (ldChan x.1 (.slice ya x.1.cells.length yp) (.slice yb x.1.words.length yq) (by simp [go_sem, *])) rfl (ldHand x.2.1 (by simp [go_sem, *]))) rfl ⟨⟨_,_,rfl,?_,?_,fr1,fr2⟩,by (repeat (first|with_reducible assumption|with_reducible refine oA ?_|with_reducible refine oD ?_|((with_reducible refine oX ?_ ?_);rotate_left;(focus ((try dsimp only);(try simp);(try omega))))|((with_reducible refine oS ?_ ?_);rotate_left;(focus ((try dsimp only);(try simp);(try omega))))))⟩
  · exact zP oY1 oY1 hoff1
  · exact zP oY2 oY2 hoff2
set_option maxRecDepth 100000 in
set_option maxHeartbeats 2000000 in
theorem sendPut_4 (c:Ch) (h:Ha) (v1 v2:Value) (lo:Nat) (w:World) (h1:OCells w lo v1 c.cells) (h2:OInts w lo v2 c.words) (hc0:0≤h.cell) (hc1:h.cell<c.cells.length) (hn:(h.seen == 1)=false) (hs:(h.seen == 0)=false) :
    Calls Try.prog 89 #[.agg (cvals c v1 v2),.agg (hvals h)] w fun r w'=>StepO w w' lo v1 v2 (putS c h) r:=by
  have e:putS c h=nothing:=by simp [putS,putK,hs,hn]
  have T:=Lib.hid fun W=>refused_any W lo v1 v2
  rw [← e] at T
  generalize putS c h=x at *
  clear e hc0 hc1
  have b1:=fun j (hj:v1.ownBlock=some j)=>(h1.lt j hj).2
  have b2:=fun j (hj:v2.ownBlock=some j)=>(h2.lt j hj).2
  have m1:∀ j,w.heap.size≤j→some j≠v1.ownBlock:=fun j hj e=>by have:=b1 _ e.symm;omega
  have m2:∀ j,w.heap.size≤j→some j≠v2.ownBlock:=fun j hj e=>by have:=b2 _ e.symm;omega
  have m10:=m1 (w.heap.size) (by omega)
  have m11:=m1 (w.heap.size+1) (by omega)
  have m12:=m1 (w.heap.size+1+1) (by omega)
  have m13:=m1 (w.heap.size+1+1+1) (by omega)
  have m20:=m2 (w.heap.size) (by omega)
  have m21:=m2 (w.heap.size+1) (by omega)
  have m22:=m2 (w.heap.size+1+1) (by omega)
  have m23:=m2 (w.heap.size+1+1+1) (by omega)
  have o1:=h1
  have o2:=h2
  obtain ⟨a1,q1,e1,_⟩:=h1.seg
  obtain ⟨a2,q2,e2,_⟩:=h2.seg
  subst e1 e2
  clear h1 h2
  go_enter Try.func89,Try.ntmps89
  go_wp2_with fail
  refine (T.out _).mono ?_
  rintro _ w3 ⟨⟨y1,y2,rfl,oY1,oY2,fY1,fY2⟩,hO0⟩
  have hO:=onlB (a:=(Value.slice a1 c.cells.length q1).ownBlock) (b:=(Value.slice a2 c.words.length q2).ownBlock) hO0
  have hO3:Onl (Value.slice a1 c.cells.length q1).ownBlock (Value.slice a2 c.words.length q2).ownBlock w w3:=onlT (onlB (by exact zB)) hO
  have hsw3:=hO.2.2.2.1;(try (simp at hsw3));have zz:=And.intro (onlHp hO (i:=w.heap.size+1+1+1) (by (try simp) <;> omega) (by assumption) (by assumption)) <| And.intro (onlHp hO (i:=w.heap.size+1+1) (by (try simp) <;> omega) (by assumption) (by assumption)) <| And.intro (onlHp hO (i:=w.heap.size+1) (by (try simp) <;> omega) (by assumption) (by assumption)) <| onlHp hO (i:=w.heap.size) (by (try simp) <;> omega) (by assumption) (by assumption);(try simp [go_sem] at zz);(try clear z_wppp x_wppp f_wppp l_wppp);(try clear z_wpp x_wpp f_wpp l_wpp);(try clear z_wp x_wp f_wp l_wp);(try clear z_w x_w f_w l_w);obtain ⟨z_wppp,z_wpp,z_wp,z_w⟩:=zz;obtain ⟨x_wppp,f_wppp,l_wppp⟩:=bO z_wppp;obtain ⟨x_wpp,f_wpp,l_wpp⟩:=bO z_wpp;obtain ⟨x_wp,f_wp,l_wp⟩:=bO z_wp;obtain ⟨x_w,f_w,l_w⟩:=bO z_w
  clear hO hO0
  have hoff1:∀ j,w.heap.size≤j→j<w.heap.size+1+1+1+1→y1.ownBlock≠some j:=fun j h1 h2=>fY1.off b1 h1 (by (try simp) <;> omega);have hoff2:∀ j,w.heap.size≤j→j<w.heap.size+1+1+1+1→y2.ownBlock≠some j:=fun j h1 h2=>fY2.off b2 h1 (by (try simp) <;> omega);have fr1:Fresh w _ y1:=fun j hj=>(fY1 j hj).imp id (fun h=>Nat.le_trans (by (try simp) <;> omega) h);have fr2:Fresh w _ y2:=fun j hj=>(fY2 j hj).imp id (fun h=>Nat.le_trans (by (try simp) <;> omega) h);obtain ⟨ya,yp,rfl,_⟩:=oY1.seg;obtain ⟨yb,yq,rfl,_⟩:=oY2.seg
  go_wp2
  refine bodyPost_ret (res_cct Try.results89 rfl (ldChan x.1 (.slice ya x.1.cells.length yp) (.slice yb x.1.words.length yq) (by simp [go_sem, *])) rfl (ldHand x.2.1 (by simp [go_sem, *]))) rfl ⟨⟨_,_,rfl,?_,?_,fr1,fr2⟩,by (repeat (first|with_reducible assumption|with_reducible refine oA ?_|with_reducible refine oD ?_|((with_reducible refine oX ?_ ?_);rotate_left;(focus ((try dsimp only);(try simp);(try omega))))|((with_reducible refine oS ?_ ?_);rotate_left;(focus ((try dsimp only);(try simp);(try omega))))))⟩
  · exact zP oY1 oY1 hoff1
  · exact zP oY2 oY2 hoff2
set_option maxRecDepth 100000 in
set_option maxHeartbeats 2000000 in
theorem sendPut_any (c:Ch) (h:Ha) (v1 v2:Value) (lo:Nat) (w:World) (h1:OCells w lo v1 c.cells) (h2:OInts w lo v2 c.words) (hc0:0≤h.cell) (hc1:h.cell<c.cells.length) (hc:chanOk c=true) (hlo:lo≤w.heap.size) :
    Calls Try.prog 89 #[.agg (cvals c v1 v2),.agg (hvals h)] w fun r w'=>StepO w w' lo v1 v2 (putS c h) r:=by
  cases hn:(h.seen == 1) with
  | true=>exact sendPut_1 c h v1 v2 lo w h1 h2 hc0 hc1 hn
  | false =>
    cases hs:(h.seen == 0) with
    | false=>exact sendPut_4 c h v1 v2 lo w h1 h2 hc0 hc1 hn hs
    | true =>
      by_cases hcf:h.come<h.fin
      · by_cases hx:h.cell<h.fin
        · exact sendPut_2a c h v1 v2 lo w h1 h2 hc0 hc1 hn hs hcf hx
        · exact sendPut_3a c h v1 v2 lo w h1 h2 hc0 hc1 hc hlo hn hs hcf hx
      · by_cases hx:h.cell<h.come
        · exact sendPut_2b c h v1 v2 lo w h1 h2 hc0 hc1 hn hs hcf hx
        · exact sendPut_3b c h v1 v2 lo w h1 h2 hc0 hc1 hc hlo hn hs hcf hx
end Go.Proofs.Ytajopaegmocnlaa
