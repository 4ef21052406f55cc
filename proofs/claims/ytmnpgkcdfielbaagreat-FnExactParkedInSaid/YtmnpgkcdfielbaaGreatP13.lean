/-
  The program's touch of receiving, every case, and its step, on hands and channels that are kept whole; lists lie in memory.
  The program's hand that is grown, its numbering and its calling of who waits to be let in, on hands and channels that are kept whole; the lists are the call's own.
  The program's touch of growing, case by case, on hands and channels that are kept whole; the lists are the call's own.
  The program's touch of growing, every case, and its step, on hands and channels that are kept whole; lists lie in memory.
  The program's word of one's own, what is heard, fetched and marked when one is parked, on hands and channels that are kept whole; the lists are the call's own.
-/
import Derived.Test.YtmnpgkcdfielbaaGreatP06
import Derived.Test.YtmnpgkcdfielbaaGreatP09
import Derived.Test.YtmnpgkcdfielbaaGreatP12
import Derived.Laws.EntriesVeiled
import Derived.Deep.RegionHeld3
import Derived.BigRegion
import Derived.Deep.DeepCutAuto
import Derived.LoopN
import Derived.WalkMore
import Derived.Test.YtmnpgkcdfielbaaGreatP08
import Derived.WalkLawsBesides
set_option linter.unusedSimpArgs false
set_option linter.unusedVariables false
namespace Go.Proofs.YtmnpgkcdfielbaaGreat
open Go.RowKit
set_option linter.unusedSimpArgs false
attribute [local simp] bx_size
attribute [local go_sem ↓] zeroHand zeroChan toLHand toLChan toVHand toVChan storeHand storeChan storeHandC storeChanC
/-- Numbering. -/
def numR (c:Ch) (h:Ha):St:=if c.got=40 then (c,resting 4 0,true) else ({ c with got:=c.got+1 },{ h with cell:=c.got,pos:=10 },true)
theorem recvNumber_any (c:Ch) (h:Ha) (v1 v2:Value) (lo:Nat) (w:World) (h1:OCells w lo v1 c.cells) (h2:OInts w lo v2 c.words) (hsr:0≤c.got∧c.got≤40) :
    Calls Tryz.prog 131 #[.agg (cvals c v1 v2),.agg (hvals h)] w fun r w'=>StepO w w' lo v1 v2 (numR c h) r:=by
  unfold numR
  split
  · exact recvNumber_a c h v1 v2 lo w h1 h2 ‹_›
  · exact recvNumber_b c h v1 v2 lo w h1 h2 ‹_› hsr
def viewR (c:Ch) (h:Ha):St:=if (cellAt c h.cell).s == 6 then (c,h,false) else if (view7 c h).2 then (c,(view7 c h).1,true) else nothing
theorem recvView_any (c:Ch) (h:Ha) (v1 v2:Value) (lo:Nat) (w:World) (h1:OCells w lo v1 c.cells) (h2:OInts w lo v2 c.words) (hc0:0≤h.cell) (hc1:h.cell<c.cells.length) (hk:callOk h.code h.elem=true) :
    Calls Tryz.prog 132 #[.agg (cvals c v1 v2),.agg (hvals h)] w fun r w'=>StepO w w' lo v1 v2 (viewR c h) r:=by
  by_cases n0:(cellAt c h.cell).s=0
  · rw [show viewR c h=(c,{ viewAs h (cellAt c h.cell) with pos:=11 },true) by simp [viewR,view7,n0]]
    exact recvView_0 c h v1 v2 lo w h1 h2 hc0 hc1 n0
  by_cases n1:(cellAt c h.cell).s=1
  · rw [show viewR c h=(c,{ viewAs h (cellAt c h.cell) with pos:=11 },true) by simp [viewR,view7,n1]]
    exact recvView_1 c h v1 v2 lo w h1 h2 hc0 hc1 n1
  by_cases n2:(cellAt c h.cell).s=2
  · rw [show viewR c h=(c,{ viewAs h (cellAt c h.cell) with pos:=12 },true) by simp [viewR,view7,n2]]
    exact recvView_2 c h v1 v2 lo w h1 h2 hc0 hc1 n2
  by_cases n3:(cellAt c h.cell).s=3
  · rw [show viewR c h=(c,{ viewAs h (cellAt c h.cell) with pos:=12 },true) by simp [viewR,view7,n3]]
    exact recvView_3 c h v1 v2 lo w h1 h2 hc0 hc1 n3
  by_cases n9:(cellAt c h.cell).s=9
  · rw [show viewR c h=(c,anew h,true) by simp [viewR,view7,n9];rfl]
    exact recvView_9 c h v1 v2 lo w h1 h2 hc0 hc1 n9 hk
  by_cases n6:(cellAt c h.cell).s=6
  · rw [show viewR c h=(c,h,false) by simp [viewR,n6]]
    exact recvView_6 c h v1 v2 lo w h1 h2 hc0 hc1 n6
  · rw [show viewR c h=nothing by simp [viewR,view7,n0,n1,n2,n3,n9,n6]]
    exact recvView_no c h v1 v2 lo w h1 h2 hc0 hc1 (by simpa using n0) (by simpa using n1) (by simpa using n2) (by simpa using n3) (by simpa using n9) (by simpa using n6)
def takeR (c:Ch) (h:Ha):St :=
  if h.seen == 2 then tnS c 7 0 (grow7 h 0) { h with pos:=10 } else if h.seen == 3 then tnS c 5 (cellAt c h.cell).t { h with pos:=13 } { h with pos:=10 }
  else if h.seen != 0 && h.seen != 1 then nothing else if h.cell<h.come then tnS c 8 0 (grow7 h 2) { h with pos:=10 } else wtS c 4 (grow7 h 1) { h with pos:=10 }
theorem recvTake_any (c:Ch) (h:Ha) (v1 v2:Value) (lo:Nat) (w:World) (h1:OCells w lo v1 c.cells) (h2:OInts w lo v2 c.words) (hc0:0≤h.cell) (hc1:h.cell<c.cells.length) (hc:chanOk c=true) (hlo:lo≤w.heap.size) :
    Calls Tryz.prog 134 #[.agg (cvals c v1 v2),.agg (hvals h)] w fun r w'=>StepO w w' lo v1 v2 (takeR c h) r:=by
  cases e0:(h.seen == 0) with
  | true =>
    have q:h.seen=0:=by simpa using e0
    by_cases hx:h.come≤h.cell
    · rw [show takeR c h=wtS c 4 (grow7 h 1) { h with pos:=10 } by simp [takeR,q,show ¬ h.cell<h.come by omega]]
      exact recvTake_w0 c h v1 v2 lo w h1 h2 hc0 hc1 hc hlo e0 hx
    · rw [show takeR c h=tnS c 8 0 (grow7 h 2) { h with pos:=10 } by simp [takeR,q,show h.cell<h.come by omega]]
      exact recvTake_p0 c h v1 v2 lo w h1 h2 hc0 hc1 e0 hx
  | false =>
    cases e1:(h.seen == 1) with
    | true =>
      have q:h.seen=1:=by simpa using e1
      by_cases hx:h.come≤h.cell
      · rw [show takeR c h=wtS c 4 (grow7 h 1) { h with pos:=10 } by simp [takeR,q,show ¬ h.cell<h.come by omega]]
        exact recvTake_w1 c h v1 v2 lo w h1 h2 hc0 hc1 hc hlo e0 e1 hx
      · rw [show takeR c h=tnS c 8 0 (grow7 h 2) { h with pos:=10 } by simp [takeR,q,show h.cell<h.come by omega]]
        exact recvTake_p1 c h v1 v2 lo w h1 h2 hc0 hc1 e0 e1 hx
    | false =>
      cases e2:(h.seen == 2) with
      | true =>
        rw [show takeR c h=tnS c 7 0 (grow7 h 0) { h with pos:=10 } by simp only [takeR,e2];rfl]
        exact recvTake_2 c h v1 v2 lo w h1 h2 hc0 hc1 e0 e1 e2
      | false =>
        cases e3:(h.seen == 3) with
        | true =>
          rw [show takeR c h=tnS c 5 (cellAt c h.cell).t { h with pos:=13 } { h with pos:=10 } by simp only [takeR,e2,e3];rfl]
          exact recvTake_3 c h v1 v2 lo w h1 h2 hc0 hc1 e0 e1 e2 e3
        | false =>
          rw [show takeR c h=nothing by simp only [takeR,e2,e3,bne,e0,e1];rfl]
          exact recvTake_no c h v1 v2 lo w h1 h2 e0 e1 e2 e3
set_option maxRecDepth 100000 in
set_option maxHeartbeats 2000000 in
theorem recvTouch_no (c:Ch) (h:Ha) (v1 v2:Value) (lo:Nat) (w:World) (h1:OCells w lo v1 c.cells) (h2:OInts w lo v2 c.words) (hk:(h.code != 2)=true) :
    Calls Tryz.prog 128 #[.agg (cvals c v1 v2),.agg (hvals h)] w fun r w'=>StepO w w' lo v1 v2 (nothing) r:=by
  have T:=Lib.hid fun W=>refused_any W lo v1 v2
  generalize nothing=x at *
  have b1:=fun j (hj:v1.ownBlock=some j)=>(h1.lt j hj).2
  have b2:=fun j (hj:v2.ownBlock=some j)=>(h2.lt j hj).2
  have m1:∀ j,w.heap.size≤j→some j≠v1.ownBlock:=fun j hj e=>by have:=b1 _ e.symm;omega
  have m2:∀ j,w.heap.size≤j→some j≠v2.ownBlock:=fun j hj e=>by have:=b2 _ e.symm;omega
  have m10:=m1 (w.heap.size) (by omega)
  have m20:=m2 (w.heap.size) (by omega)
  have m11:=m1 (w.heap.size+1) (by omega)
  have m21:=m2 (w.heap.size+1) (by omega)
  have m12:=m1 (w.heap.size+1+1) (by omega)
  have m22:=m2 (w.heap.size+1+1) (by omega)
  have m13:=m1 (w.heap.size+1+1+1) (by omega)
  have m23:=m2 (w.heap.size+1+1+1) (by omega)
  have o1:=h1
  have o2:=h2
  obtain ⟨a1,q1,e1,_⟩:=h1.seg
  obtain ⟨a2,q2,e2,_⟩:=h2.seg
  subst e1 e2
  clear h1 h2
  go_enter Tryz.func128,Tryz.ntmps128
  go_wp2_with fail
  refine (T.out _).mono ?_
  rintro _ w3 ⟨⟨y1,y2,rfl,oY1,oY2,fY1,fY2⟩,hbw3⟩
  have hO3:Onl (Value.slice a1 c.cells.length q1).ownBlock (Value.slice a2 c.words.length q2).ownBlock w w3:=onlT (onlB (by exact zB)) (onlB hbw3)
  have hsw3:=hbw3.size;(try simp at hsw3);have zz:=q4 hbw3 (b:=w.heap.size);(try simp [go_sem] at zz);(try clear z_wppp x_wppp f_wppp l_wppp);(try clear z_wpp x_wpp f_wpp l_wpp);(try clear z_wp x_wp f_wp l_wp);(try clear z_w x_w f_w l_w);obtain ⟨z_wppp,z_wpp,z_wp,z_w⟩:=zz;obtain ⟨x_wppp,f_wppp,l_wppp⟩:=bO z_wppp;obtain ⟨x_wpp,f_wpp,l_wpp⟩:=bO z_wpp;obtain ⟨x_wp,f_wp,l_wp⟩:=bO z_wp;obtain ⟨x_w,f_w,l_w⟩:=bO z_w;clear hbw3
  have hoff1:∀ j,w.heap.size≤j→j<w.heap.size+1+1+1+1→y1.ownBlock≠some j:=fun j h1 h2=>fY1.off b1 h1 (by (try simp) <;> omega);have hoff2:∀ j,w.heap.size≤j→j<w.heap.size+1+1+1+1→y2.ownBlock≠some j:=fun j h1 h2=>fY2.off b2 h1 (by (try simp) <;> omega);have fr1:Fresh w _ y1:=fun j hj=>(fY1 j hj).imp id (fun h=>Nat.le_trans (by (try simp) <;> omega) h);have fr2:Fresh w _ y2:=fun j hj=>(fY2 j hj).imp id (fun h=>Nat.le_trans (by (try simp) <;> omega) h);obtain ⟨ya,yp,rfl,_⟩:=oY1.seg;obtain ⟨yb,yq,rfl,_⟩:=oY2.seg
  go_wp2
  refine bodyPost_ret (res_cct Tryz.results128 rfl (ldChan x.1 (.slice ya x.1.cells.length yp) (.slice yb x.1.words.length yq) (by simp [go_sem, *])) rfl (ldHand x.2.1 (by simp [go_sem, *]))) rfl ⟨⟨_,_,rfl,?_,?_,fr1,fr2⟩,by (repeat (first|with_reducible assumption|with_reducible refine oA ?_|with_reducible refine oD ?_|((with_reducible refine oX ?_ ?_);rotate_left;(focus ((try dsimp only);(try simp);(try omega))))|((with_reducible refine oS ?_ ?_);rotate_left;(focus ((try dsimp only);(try simp);(try omega))))))⟩
  · exact zP oY1 oY1 hoff1
  · exact zP oY2 oY2 hoff2
set_option maxRecDepth 100000 in
set_option maxHeartbeats 2000000 in
theorem recvTouch_far (c:Ch) (h:Ha) (v1 v2:Value) (lo:Nat) (w:World) (h1:OCells w lo v1 c.cells) (h2:OInts w lo v2 c.words) (hk:(h.code != 2)=false) (n9:(h.pos == 9)=false) (n10:(h.pos == 10)=false) (n11:(h.pos == 11)=false) (n12:(h.pos == 12)=false) (n13:(h.pos == 13)=false) (n14:(h.pos == 14)=false) (n15:(h.pos == 15)=false) :
    Calls Tryz.prog 128 #[.agg (cvals c v1 v2),.agg (hvals h)] w fun r w'=>StepO w w' lo v1 v2 (nothing) r:=by
  have T:=Lib.hid fun W=>refused_any W lo v1 v2
  generalize nothing=x at *
  have b1:=fun j (hj:v1.ownBlock=some j)=>(h1.lt j hj).2
  have b2:=fun j (hj:v2.ownBlock=some j)=>(h2.lt j hj).2
  have m1:∀ j,w.heap.size≤j→some j≠v1.ownBlock:=fun j hj e=>by have:=b1 _ e.symm;omega
  have m2:∀ j,w.heap.size≤j→some j≠v2.ownBlock:=fun j hj e=>by have:=b2 _ e.symm;omega
  have m10:=m1 (w.heap.size) (by omega)
  have m20:=m2 (w.heap.size) (by omega)
  have m11:=m1 (w.heap.size+1) (by omega)
  have m21:=m2 (w.heap.size+1) (by omega)
  have m12:=m1 (w.heap.size+1+1) (by omega)
  have m22:=m2 (w.heap.size+1+1) (by omega)
  have m13:=m1 (w.heap.size+1+1+1) (by omega)
  have m23:=m2 (w.heap.size+1+1+1) (by omega)
  have o1:=h1
  have o2:=h2
  obtain ⟨a1,q1,e1,_⟩:=h1.seg
  obtain ⟨a2,q2,e2,_⟩:=h2.seg
  subst e1 e2
  clear h1 h2
  go_enter Tryz.func128,Tryz.ntmps128
  go_wp2_with fail
  refine (T.out _).mono ?_
  rintro _ w3 ⟨⟨y1,y2,rfl,oY1,oY2,fY1,fY2⟩,hbw3⟩
  have hO3:Onl (Value.slice a1 c.cells.length q1).ownBlock (Value.slice a2 c.words.length q2).ownBlock w w3:=onlT (onlB (by exact zB)) (onlB hbw3)
  have hsw3:=hbw3.size;(try simp at hsw3);have zz:=q4 hbw3 (b:=w.heap.size);(try simp [go_sem] at zz);(try clear z_wppp x_wppp f_wppp l_wppp);(try clear z_wpp x_wpp f_wpp l_wpp);(try clear z_wp x_wp f_wp l_wp);(try clear z_w x_w f_w l_w);obtain ⟨z_wppp,z_wpp,z_wp,z_w⟩:=zz;obtain ⟨x_wppp,f_wppp,l_wppp⟩:=bO z_wppp;obtain ⟨x_wpp,f_wpp,l_wpp⟩:=bO z_wpp;obtain ⟨x_wp,f_wp,l_wp⟩:=bO z_wp;obtain ⟨x_w,f_w,l_w⟩:=bO z_w;clear hbw3
  have hoff1:∀ j,w.heap.size≤j→j<w.heap.size+1+1+1+1→y1.ownBlock≠some j:=fun j h1 h2=>fY1.off b1 h1 (by (try simp) <;> omega);have hoff2:∀ j,w.heap.size≤j→j<w.heap.size+1+1+1+1→y2.ownBlock≠some j:=fun j h1 h2=>fY2.off b2 h1 (by (try simp) <;> omega);have fr1:Fresh w _ y1:=fun j hj=>(fY1 j hj).imp id (fun h=>Nat.le_trans (by (try simp) <;> omega) h);have fr2:Fresh w _ y2:=fun j hj=>(fY2 j hj).imp id (fun h=>Nat.le_trans (by (try simp) <;> omega) h);obtain ⟨ya,yp,rfl,_⟩:=oY1.seg;obtain ⟨yb,yq,rfl,_⟩:=oY2.seg
  go_wp2
  refine bodyPost_ret (res_cct Tryz.results128 rfl (ldChan x.1 (.slice ya x.1.cells.length yp) (.slice yb x.1.words.length yq) (by simp [go_sem, *])) rfl (ldHand x.2.1 (by simp [go_sem, *]))) rfl ⟨⟨_,_,rfl,?_,?_,fr1,fr2⟩,by (repeat (first|with_reducible assumption|with_reducible refine oA ?_|with_reducible refine oD ?_|((with_reducible refine oX ?_ ?_);rotate_left;(focus ((try dsimp only);(try simp);(try omega))))|((with_reducible refine oS ?_ ?_);rotate_left;(focus ((try dsimp only);(try simp);(try omega))))))⟩
  · exact zP oY1 oY1 hoff1
  · exact zP oY2 oY2 hoff2
set_option maxRecDepth 100000 in
set_option maxHeartbeats 2000000 in
theorem recvTouch_9 (c:Ch) (h:Ha) (v1 v2:Value) (lo:Nat) (w:World) (h1:OCells w lo v1 c.cells) (h2:OInts w lo v2 c.words) (hsr:0≤c.got∧c.got≤40) (hk:(h.code != 2)=false) (hq:(h.pos == 9)=true) :
    Calls Tryz.prog 128 #[.agg (cvals c v1 v2),.agg (hvals h)] w fun r w'=>StepO w w' lo v1 v2 (numR c h) r:=by
  have T:=Lib.hid fun W a b=>recvNumber_any c h v1 v2 lo W a b hsr
  change Hid (∀ W,_→_→Calls _ _ _ _ (fun r w'=>StepO W w' lo v1 v2 (numR c h) r)) at T
  clear hsr
  generalize numR c h=x at *
  have b1:=fun j (hj:v1.ownBlock=some j)=>(h1.lt j hj).2
  have b2:=fun j (hj:v2.ownBlock=some j)=>(h2.lt j hj).2
  have m1:∀ j,w.heap.size≤j→some j≠v1.ownBlock:=fun j hj e=>by have:=b1 _ e.symm;omega
  have m2:∀ j,w.heap.size≤j→some j≠v2.ownBlock:=fun j hj e=>by have:=b2 _ e.symm;omega
  have m10:=m1 (w.heap.size) (by omega)
  have m20:=m2 (w.heap.size) (by omega)
  have m11:=m1 (w.heap.size+1) (by omega)
  have m21:=m2 (w.heap.size+1) (by omega)
  have m12:=m1 (w.heap.size+1+1) (by omega)
  have m22:=m2 (w.heap.size+1+1) (by omega)
  have m13:=m1 (w.heap.size+1+1+1) (by omega)
  have m23:=m2 (w.heap.size+1+1+1) (by omega)
  have o1:=h1
  have o2:=h2
  obtain ⟨a1,q1,e1,_⟩:=h1.seg
  obtain ⟨a2,q2,e2,_⟩:=h2.seg
  subst e1 e2
  clear h1 h2
  go_enter Tryz.func128,Tryz.ntmps128
  go_wp2_with fail
  refine (T.out _ (by exact zO o1 o1) (by exact zO o2 o2)).mono ?_
  rintro _ w3 ⟨⟨y1,y2,rfl,oY1,oY2,fY1,fY2⟩,hO⟩
  have hO3:Onl (Value.slice a1 c.cells.length q1).ownBlock (Value.slice a2 c.words.length q2).ownBlock w w3:=onlT (onlB (by exact zB)) hO
  have hsw3:=hO.2.2.2.1;(try (simp at hsw3));have zz:=And.intro (onlHp hO (i:=w.heap.size+1+1+1) (by (try simp) <;> omega) (by assumption) (by assumption)) <| And.intro (onlHp hO (i:=w.heap.size+1+1) (by (try simp) <;> omega) (by assumption) (by assumption)) <| And.intro (onlHp hO (i:=w.heap.size+1) (by (try simp) <;> omega) (by assumption) (by assumption)) <| onlHp hO (i:=w.heap.size) (by (try simp) <;> omega) (by assumption) (by assumption);(try simp [go_sem] at zz);(try clear z_wppp x_wppp f_wppp l_wppp);(try clear z_wpp x_wpp f_wpp l_wpp);(try clear z_wp x_wp f_wp l_wp);(try clear z_w x_w f_w l_w);obtain ⟨z_wppp,z_wpp,z_wp,z_w⟩:=zz;obtain ⟨x_wppp,f_wppp,l_wppp⟩:=bO z_wppp;obtain ⟨x_wpp,f_wpp,l_wpp⟩:=bO z_wpp;obtain ⟨x_wp,f_wp,l_wp⟩:=bO z_wp;obtain ⟨x_w,f_w,l_w⟩:=bO z_w
  clear hO
  have hoff1:∀ j,w.heap.size≤j→j<w.heap.size+1+1+1+1→y1.ownBlock≠some j:=fun j h1 h2=>fY1.off b1 h1 (by (try simp) <;> omega);have hoff2:∀ j,w.heap.size≤j→j<w.heap.size+1+1+1+1→y2.ownBlock≠some j:=fun j h1 h2=>fY2.off b2 h1 (by (try simp) <;> omega);have fr1:Fresh w _ y1:=fun j hj=>(fY1 j hj).imp id (fun h=>Nat.le_trans (by (try simp) <;> omega) h);have fr2:Fresh w _ y2:=fun j hj=>(fY2 j hj).imp id (fun h=>Nat.le_trans (by (try simp) <;> omega) h);obtain ⟨ya,yp,rfl,_⟩:=oY1.seg;obtain ⟨yb,yq,rfl,_⟩:=oY2.seg
  go_wp2
  refine bodyPost_ret (res_cct Tryz.results128 rfl (ldChan x.1 (.slice ya x.1.cells.length yp) (.slice yb x.1.words.length yq) (by simp [go_sem, *])) rfl (ldHand x.2.1 (by simp [go_sem, *]))) rfl ⟨⟨_,_,rfl,?_,?_,fr1,fr2⟩,by (repeat (first|with_reducible assumption|with_reducible refine oA ?_|with_reducible refine oD ?_|((with_reducible refine oX ?_ ?_);rotate_left;(focus ((try dsimp only);(try simp);(try omega))))|((with_reducible refine oS ?_ ?_);rotate_left;(focus ((try dsimp only);(try simp);(try omega))))))⟩
  · exact zP oY1 oY1 hoff1
  · exact zP oY2 oY2 hoff2
set_option maxRecDepth 100000 in
set_option maxHeartbeats 2000000 in
theorem recvTouch_10 (c:Ch) (h:Ha) (v1 v2:Value) (lo:Nat) (w:World) (h1:OCells w lo v1 c.cells) (h2:OInts w lo v2 c.words) (hc0:0≤h.cell) (hc1:h.cell<c.cells.length) (hcall:callOk h.code h.elem=true) (hk:(h.code != 2)=false) (hq:(h.pos == 10)=true) :
    Calls Tryz.prog 128 #[.agg (cvals c v1 v2),.agg (hvals h)] w fun r w'=>StepO w w' lo v1 v2 (viewR c h) r:=by
  have T:=Lib.hid fun W a b=>recvView_any c h v1 v2 lo W a b hc0 hc1 hcall
  change Hid (∀ W,_→_→Calls _ _ _ _ (fun r w'=>StepO W w' lo v1 v2 (viewR c h) r)) at T
  clear hc0 hc1 hcall
  have n9:(h.pos == 9)=false:=by simp at hq ⊢;omega
  generalize viewR c h=x at *
  have b1:=fun j (hj:v1.ownBlock=some j)=>(h1.lt j hj).2
  have b2:=fun j (hj:v2.ownBlock=some j)=>(h2.lt j hj).2
  have m1:∀ j,w.heap.size≤j→some j≠v1.ownBlock:=fun j hj e=>by have:=b1 _ e.symm;omega
  have m2:∀ j,w.heap.size≤j→some j≠v2.ownBlock:=fun j hj e=>by have:=b2 _ e.symm;omega
  have m10:=m1 (w.heap.size) (by omega)
  have m20:=m2 (w.heap.size) (by omega)
  have m11:=m1 (w.heap.size+1) (by omega)
  have m21:=m2 (w.heap.size+1) (by omega)
  have m12:=m1 (w.heap.size+1+1) (by omega)
  have m22:=m2 (w.heap.size+1+1) (by omega)
  have m13:=m1 (w.heap.size+1+1+1) (by omega)
  have m23:=m2 (w.heap.size+1+1+1) (by omega)
  have o1:=h1
  have o2:=h2
  obtain ⟨a1,q1,e1,_⟩:=h1.seg
  obtain ⟨a2,q2,e2,_⟩:=h2.seg
  subst e1 e2
  clear h1 h2
  go_enter Tryz.func128,Tryz.ntmps128
  go_wp2_with fail
  refine (T.out _ (by exact zO o1 o1) (by exact zO o2 o2)).mono ?_
  rintro _ w3 ⟨⟨y1,y2,rfl,oY1,oY2,fY1,fY2⟩,hO⟩
  have hO3:Onl (Value.slice a1 c.cells.length q1).ownBlock (Value.slice a2 c.words.length q2).ownBlock w w3:=onlT (onlB (by exact zB)) hO
  have hsw3:=hO.2.2.2.1;(try (simp at hsw3));have zz:=And.intro (onlHp hO (i:=w.heap.size+1+1+1) (by (try simp) <;> omega) (by assumption) (by assumption)) <| And.intro (onlHp hO (i:=w.heap.size+1+1) (by (try simp) <;> omega) (by assumption) (by assumption)) <| And.intro (onlHp hO (i:=w.heap.size+1) (by (try simp) <;> omega) (by assumption) (by assumption)) <| onlHp hO (i:=w.heap.size) (by (try simp) <;> omega) (by assumption) (by assumption);(try simp [go_sem] at zz);(try clear z_wppp x_wppp f_wppp l_wppp);(try clear z_wpp x_wpp f_wpp l_wpp);(try clear z_wp x_wp f_wp l_wp);(try clear z_w x_w f_w l_w);obtain ⟨z_wppp,z_wpp,z_wp,z_w⟩:=zz;obtain ⟨x_wppp,f_wppp,l_wppp⟩:=bO z_wppp;obtain ⟨x_wpp,f_wpp,l_wpp⟩:=bO z_wpp;obtain ⟨x_wp,f_wp,l_wp⟩:=bO z_wp;obtain ⟨x_w,f_w,l_w⟩:=bO z_w
  clear hO
  have hoff1:∀ j,w.heap.size≤j→j<w.heap.size+1+1+1+1→y1.ownBlock≠some j:=fun j h1 h2=>fY1.off b1 h1 (by (try simp) <;> omega);have hoff2:∀ j,w.heap.size≤j→j<w.heap.size+1+1+1+1→y2.ownBlock≠some j:=fun j h1 h2=>fY2.off b2 h1 (by (try simp) <;> omega);have fr1:Fresh w _ y1:=fun j hj=>(fY1 j hj).imp id (fun h=>Nat.le_trans (by (try simp) <;> omega) h);have fr2:Fresh w _ y2:=fun j hj=>(fY2 j hj).imp id (fun h=>Nat.le_trans (by (try simp) <;> omega) h);obtain ⟨ya,yp,rfl,_⟩:=oY1.seg;obtain ⟨yb,yq,rfl,_⟩:=oY2.seg
  go_wp2
  refine bodyPost_ret (res_cct Tryz.results128 rfl (ldChan x.1 (.slice ya x.1.cells.length yp) (.slice yb x.1.words.length yq) (by simp [go_sem, *])) rfl (ldHand x.2.1 (by simp [go_sem, *]))) rfl ⟨⟨_,_,rfl,?_,?_,fr1,fr2⟩,by (repeat (first|with_reducible assumption|with_reducible refine oA ?_|with_reducible refine oD ?_|((with_reducible refine oX ?_ ?_);rotate_left;(focus ((try dsimp only);(try simp);(try omega))))|((with_reducible refine oS ?_ ?_);rotate_left;(focus ((try dsimp only);(try simp);(try omega))))))⟩
  · exact zP oY1 oY1 hoff1
  · exact zP oY2 oY2 hoff2
set_option maxRecDepth 100000 in
set_option maxHeartbeats 2000000 in
theorem recvTouch_11 (c:Ch) (h:Ha) (v1 v2:Value) (lo:Nat) (w:World) (h1:OCells w lo v1 c.cells) (h2:OInts w lo v2 c.words) (hk:(h.code != 2)=false) (hq:(h.pos == 11)=true) :
    Calls Tryz.prog 128 #[.agg (cvals c v1 v2),.agg (hvals h)] w fun r w'=>StepO w w' lo v1 v2 ((c,{ h with come:=c.sent,pos:=12 },true)) r:=by
  have n9:(h.pos == 9)=false:=by simp at hq ⊢;omega
  have n10:(h.pos == 10)=false:=by simp at hq ⊢;omega
  have b1:=fun j (hj:v1.ownBlock=some j)=>(h1.lt j hj).2
  have b2:=fun j (hj:v2.ownBlock=some j)=>(h2.lt j hj).2
  obtain ⟨a1,q1,rfl,_⟩:=h1.seg
  obtain ⟨a2,q2,rfl,_⟩:=h2.seg
  have O1:=Lib.hid h1
  have O2:=Lib.hid h2
  clear h1 h2
  have o1:=O1.out
  have o2:=O2.out
  go_enter Tryz.func128,Tryz.ntmps128
  go_wp2_with fail
  go_region_held3 (fun w'=>hp w' w.heap.size=some (.cells (cvals c (.slice a1 c.cells.length q1) (.slice a2 c.words.length q2)) 34)∧hp w' (w.heap.size+1)=some (.cells (hvals { h with come:=c.sent }) 70))
    (first|(simp [*,go_sem]))
    (first|((go_at_call 133;refine bHit w (by exact zB) fun bb=>?_;refine (moved_any _ _ _).mono ?_;rintro _ w1 ⟨rfl,hbw1⟩;have hCw1:Below w.heap.size w w1:=bT bb hbw1;have hsw1:=hbw1.size;(try simp at hsw1);have zz:=q4 hbw1 (b:=w.heap.size);(try simp [go_sem] at zz);(try clear z_wppp x_wppp f_wppp l_wppp);(try clear z_wpp x_wpp f_wpp l_wpp);(try clear z_wp x_wp f_wp l_wp);(try clear z_w x_w f_w l_w);obtain ⟨z_wppp,z_wpp,z_wp,z_w⟩:=zz;obtain ⟨x_wppp,f_wppp,l_wppp⟩:=bO z_wppp;obtain ⟨x_wpp,f_wpp,l_wpp⟩:=bO z_wpp;obtain ⟨x_wp,f_wp,l_wp⟩:=bO z_wp;obtain ⟨x_w,f_w,l_w⟩:=bO z_w;have hKw1:Below w.heap.size w w1:=hCw1;clear hbw1 bb);have p1:=own_below o1 hKw1;have p2:=own_below o2 hKw1))
  go_wp2
  refine bodyPost_ret (res_cct Tryz.results128 rfl (ldChan c (.slice a1 c.cells.length q1) (.slice a2 c.words.length q2) (by simp [go_sem, *] <;> rfl)) rfl (ldHand { h with come:=c.sent,pos:=12 } (by simp [go_sem, *] <;> rfl))) rfl ⟨⟨_,_,rfl,?_,?_,fresh_refl _ _,fresh_refl _ _⟩,onlB (by exact zB)⟩
  · exact zO p1 o1
  · exact zO p2 o2
set_option maxRecDepth 100000 in
set_option maxHeartbeats 2000000 in
theorem recvTouch_12 (c:Ch) (h:Ha) (v1 v2:Value) (lo:Nat) (w:World) (h1:OCells w lo v1 c.cells) (h2:OInts w lo v2 c.words) (hc0:0≤h.cell) (hc1:h.cell<c.cells.length) (hc:chanOk c=true) (hlo:lo≤w.heap.size) (hk:(h.code != 2)=false) (hq:(h.pos == 12)=true) :
    Calls Tryz.prog 128 #[.agg (cvals c v1 v2),.agg (hvals h)] w fun r w'=>StepO w w' lo v1 v2 (takeR c h) r:=by
  have T0:=fun W a b hl=>recvTake_any c h v1 v2 lo W a b hc0 hc1 hc hl
  generalize takeR c h=x at *
  clear hc0 hc1 hc
  have n9:(h.pos == 9)=false:=by simp at hq ⊢;omega
  have n10:(h.pos == 10)=false:=by simp at hq ⊢;omega
  have n11:(h.pos == 11)=false:=by simp at hq ⊢;omega
  have b1:=fun j (hj:v1.ownBlock=some j)=>(h1.lt j hj).2
  have b2:=fun j (hj:v2.ownBlock=some j)=>(h2.lt j hj).2
  have m1:∀ j,w.heap.size≤j→some j≠v1.ownBlock:=fun j hj e=>by have:=b1 _ e.symm;omega
  have m2:∀ j,w.heap.size≤j→some j≠v2.ownBlock:=fun j hj e=>by have:=b2 _ e.symm;omega
  have m10:=m1 (w.heap.size) (by omega)
  have m20:=m2 (w.heap.size) (by omega)
  have m11:=m1 (w.heap.size+1) (by omega)
  have m21:=m2 (w.heap.size+1) (by omega)
  have m12:=m1 (w.heap.size+1+1) (by omega)
  have m22:=m2 (w.heap.size+1+1) (by omega)
  have m13:=m1 (w.heap.size+1+1+1) (by omega)
  have m23:=m2 (w.heap.size+1+1+1) (by omega)
  have o1:=h1
  have o2:=h2
  obtain ⟨a1,q1,e1,_⟩:=h1.seg
  obtain ⟨a2,q2,e2,_⟩:=h2.seg
  subst e1 e2
  have T:=Lib.hid T0
  clear h1 h2 T0
  go_enter Tryz.func128,Tryz.ntmps128
  go_wp2_with fail
  refine (T.out _ (by exact zO o1 o1) (by exact zO o2 o2) (by simp <;> omega)).mono ?_
  rintro _ w3 ⟨⟨y1,y2,rfl,oY1,oY2,fY1,fY2⟩,hO⟩
  have hO3:Onl (Value.slice a1 c.cells.length q1).ownBlock (Value.slice a2 c.words.length q2).ownBlock w w3:=onlT (onlB (by exact zB)) hO
  have hsw3:=hO.2.2.2.1;(try (simp at hsw3));have zz:=And.intro (onlHp hO (i:=w.heap.size+1+1+1) (by (try simp) <;> omega) (by assumption) (by assumption)) <| And.intro (onlHp hO (i:=w.heap.size+1+1) (by (try simp) <;> omega) (by assumption) (by assumption)) <| And.intro (onlHp hO (i:=w.heap.size+1) (by (try simp) <;> omega) (by assumption) (by assumption)) <| onlHp hO (i:=w.heap.size) (by (try simp) <;> omega) (by assumption) (by assumption);(try simp [go_sem] at zz);(try clear z_wppp x_wppp f_wppp l_wppp);(try clear z_wpp x_wpp f_wpp l_wpp);(try clear z_wp x_wp f_wp l_wp);(try clear z_w x_w f_w l_w);obtain ⟨z_wppp,z_wpp,z_wp,z_w⟩:=zz;obtain ⟨x_wppp,f_wppp,l_wppp⟩:=bO z_wppp;obtain ⟨x_wpp,f_wpp,l_wpp⟩:=bO z_wpp;obtain ⟨x_wp,f_wp,l_wp⟩:=bO z_wp;obtain ⟨x_w,f_w,l_w⟩:=bO z_w
  clear hO
  have hoff1:∀ j,w.heap.size≤j→j<w.heap.size+1+1+1+1→y1.ownBlock≠some j:=fun j h1 h2=>fY1.off b1 h1 (by (try simp) <;> omega);have hoff2:∀ j,w.heap.size≤j→j<w.heap.size+1+1+1+1→y2.ownBlock≠some j:=fun j h1 h2=>fY2.off b2 h1 (by (try simp) <;> omega);have fr1:Fresh w _ y1:=fun j hj=>(fY1 j hj).imp id (fun h=>Nat.le_trans (by (try simp) <;> omega) h);have fr2:Fresh w _ y2:=fun j hj=>(fY2 j hj).imp id (fun h=>Nat.le_trans (by (try simp) <;> omega) h);obtain ⟨ya,yp,rfl,_⟩:=oY1.seg;obtain ⟨yb,yq,rfl,_⟩:=oY2.seg
  go_wp2
  refine bodyPost_ret (res_cct Tryz.results128 rfl (ldChan x.1 (.slice ya x.1.cells.length yp) (.slice yb x.1.words.length yq) (by simp [go_sem, *])) rfl (ldHand x.2.1 (by simp [go_sem, *]))) rfl ⟨⟨_,_,rfl,?_,?_,fr1,fr2⟩,by (repeat (first|with_reducible assumption|with_reducible refine oA ?_|with_reducible refine oD ?_|((with_reducible refine oX ?_ ?_);rotate_left;(focus ((try dsimp only);(try simp);(try omega))))|((with_reducible refine oS ?_ ?_);rotate_left;(focus ((try dsimp only);(try simp);(try omega))))))⟩
  · exact zP oY1 oY1 hoff1
  · exact zP oY2 oY2 hoff2
set_option maxRecDepth 100000 in
set_option maxHeartbeats 2000000 in
theorem recvTouch_13 (c:Ch) (h:Ha) (v1 v2:Value) (lo:Nat) (w:World) (h1:OCells w lo v1 c.cells) (h2:OInts w lo v2 c.words) (hc:chanOk c=true) (hlo:lo≤w.heap.size) (hk:(h.code != 2)=false) (hq:(h.pos == 13)=true) :
    Calls Tryz.prog 128 #[.agg (cvals c v1 v2),.agg (hvals h)] w fun r w'=>StepO w w' lo v1 v2 (wkS c { h with pos:=14 } { h with pos:=15 }) r:=by
  have T0:=fun W a b hl=>woken_any c { h with pos:=14 } { h with pos:=15 } v1 v2 lo W a b hc hl
  change ∀ W,_→_→_→Calls _ _ _ _ (fun r w'=>StepB W w' lo v1 v2 (wkS c { h with pos:=14 } { h with pos:=15 }) r) at T0
  clear hc
  have n9:(h.pos == 9)=false:=by simp at hq ⊢;omega
  have n10:(h.pos == 10)=false:=by simp at hq ⊢;omega
  have n11:(h.pos == 11)=false:=by simp at hq ⊢;omega
  have n12:(h.pos == 12)=false:=by simp at hq ⊢;omega
  generalize wkS c { h with pos:=14 } { h with pos:=15 }=x at *
  have b1:=fun j (hj:v1.ownBlock=some j)=>(h1.lt j hj).2
  have b2:=fun j (hj:v2.ownBlock=some j)=>(h2.lt j hj).2
  obtain ⟨a1,q1,rfl,_⟩:=h1.seg
  obtain ⟨a2,q2,rfl,_⟩:=h2.seg
  have O1:=Lib.hid h1
  have O2:=Lib.hid h2
  clear h1 h2
  have T:=Lib.hid T0
  clear T0
  have o1:=O1.out
  have o2:=O2.out
  go_enter Tryz.func128,Tryz.ntmps128
  go_upto_region 14 with fail
  refine wp_region_inv [[],[],[1],[],[3],[0,1,2,3,4],[0,1,2,3,4,5],[0,1,2,3,4,5],[0,1,2,3,4,5],[0,1,2,3,4,5,6],[0,1,2,3,4,5,7],[0,1,2,3,4,5,8]] [51,52,53,54,55,56,57,58,59,6] (fun l s wx=>(Onl (Value.slice a1 c.cells.length q1).ownBlock (Value.slice a2 c.words.length q2).ownBlock w wx)∧(w.heap.size+1+1+1+1≤wx.heap.size)∧(hp wx w.heap.size=some (.cells (cvals c (.slice a1 c.cells.length q1) (.slice a2 c.words.length q2)) 34))∧(hp wx (w.heap.size+1)=some (.cells (hvals h) 70))∧(hp wx (w.heap.size+1+1)=some (.cells (cond (l 9) (cvals x.1 (s 1003) (s 1004)) (cvals Ch.zero (.slice none 0 0) (.slice none 0 0))) 34))∧(hp wx (w.heap.size+1+1+1)=some (.cells (cond (l 10) (hvals x.2.1) (hvals Ha.zero)) 70))∧(l 5=false→OCells wx lo (.slice a1 c.cells.length q1) c.cells)∧(l 5=false→OInts wx lo (.slice a2 c.words.length q2) c.words)∧(l 0=true→s 51=.agg (cvals c (.slice a1 c.cells.length q1) (.slice a2 c.words.length q2)))∧(l 1=true→s 52=.agg (hvals h))∧(l 2=true→s 53=.agg (hvals ({ h with pos:=14 })))∧(l 3=true→s 54=.agg (hvals h))∧(l 4=true→s 55=.agg (hvals ({ h with pos:=15 })))∧(l 5=true→s 56=.tuple #[.agg (cvals x.1 (s 1003) (s 1004)),.agg (hvals x.2.1),.bool x.2.2]∧OCells wx lo (s 1003) x.1.cells∧OInts wx lo (s 1004) x.1.words∧Fresh w (.slice a1 c.cells.length q1) (s 1003)∧Fresh w (.slice a2 c.words.length q2) (s 1004))∧(l 6=true→s 57=.agg (cvals x.1 (s 1003) (s 1004)))∧(l 7=true→s 58=.agg (hvals x.2.1))∧(l 8=true→s 59=.bool x.2.2)∧(l 11=true→s 6=.bool x.2.2)) (by kernel_rfl) (by kernel_rfl) (by kernel_rfl) (fun s=>by (simp only [fill,fillA,List.setIfInBounds_toArray,List.set_cons_zero,List.set_cons_succ];rfl)) (fun s=>⟨onlB (by exact zB),by simp,by simp [go_sem, *],by simp [go_sem, *],by simp [go_sem, *],by simp [go_sem, *],fun _=>by exact zO o1 o1,fun _=>by exact zO o2 o2,nB,nB,nB,nB,nB,nB,nB,nB,nB,nB⟩) ?_ ?_
  refine ⟨?_,?_,?_,?_,?_,?_,?_,?_,?_,?_,?_,?_,trivial⟩;rotate_left 12
  · intro l s wx hall hf
    have hO:=hf.1
    have z1:=hf.2.2.2.2.1
    have z2:=(jC hf).2.1
    rw [hall 9 rfl] at z1
    rw [hall 10 rfl] at z2
    dsimp only [cond] at z1 z2
    obtain ⟨_,X1,X2,F1,F2⟩:=((jC (jD hf)).2.1 (hall 5 rfl))
    have ec:=((jE hf).2 (hall 11 rfl))
    simp only [ec]
    clear ec hf hall
    go_wp2
    exact bodyPost_ret (res_cct Tryz.results128 rfl (ldChan x.1 _ _ z1) rfl (ldHand x.2.1 z2)) rfl ⟨⟨_,_,rfl,X1,X2,F1,F2⟩,hO⟩
  · intro l s wx hl hd hn hf0 K hK
    have hf:=Lib.hid hf0
    clear hf0
    have zc:=hf.out.2.2.1
    go_simp
    refine hK.out (upd s 51 (.agg (cvals c (.slice a1 c.cells.length q1) (.slice a2 c.words.length q2)))) _ _ (by simp [upd_at] <;> rfl) (kD (kX (fun _=>rfl) id) hf.out)
  · intro l s wx hl hd hn hf0 K hK
    have hf:=Lib.hid hf0
    clear hf0
    have zh:=hf.out.2.2.2.1
    go_simp
    refine hK.out (upd s 52 (.agg (hvals h))) _ _ (by simp [upd_at] <;> rfl) (kD (kA (kX (fun _=>rfl) id)) hf.out)
  · intro l s wx hl hd hn hf0 K hK
    have hf:=Lib.hid hf0
    clear hf0
    have e1:=((jD hf.out).2.1 (hd 1 rfl))
    go_simp
    go_at_call 133
    refine (moved_any h 14 _).mono ?_
    rintro _ wy ⟨rfl,hE⟩
    refine hK.out (upd s 53 (.agg (hvals ({ h with pos:=14 })))) _ _ (by simp [upd_at,e1] <;> rfl) (kX (onlT hf.out.1 (onlB hE)) (kX (Nat.le_trans hf.out.2.1 (Below.size hE)) (kX (hpS hf.out.2.2.1 hE) (kX (hpS hf.out.2.2.2.1 hE) (kX (hpS hf.out.2.2.2.2.1 hE) (kX (hpS (jC hf.out).2.1 hE) (kX (fun h9=>own_below ((jC hf.out).2.2.1 h9) hE) (kX (fun h9=>own_below ((jC hf.out).2.2.2.1 h9) hE) (kB (kX (fun _=>rfl) (kB (kX (nU (hn 5 rfl)) (kX (nU (hn 6 rfl)) (kX (nU (hn 7 rfl)) (kX (nU (hn 8 rfl)) (fun _=>nU (hn 11 rfl)))))))))))))))) hf.out)
  · intro l s wx hl hd hn hf0 K hK
    have hf:=Lib.hid hf0
    clear hf0
    have zh:=hf.out.2.2.2.1
    go_simp
    refine hK.out (upd s 54 (.agg (hvals h))) _ _ (by simp [upd_at] <;> rfl) (kD (kB (kA (kX (fun _=>rfl) id))) hf.out)
  · intro l s wx hl hd hn hf0 K hK
    have hf:=Lib.hid hf0
    clear hf0
    have e3:=((jD hf.out).2.2.2.1 (hd 3 rfl))
    go_simp
    go_at_call 133
    refine (moved_any h 15 _).mono ?_
    rintro _ wy ⟨rfl,hE⟩
    refine hK.out (upd s 55 (.agg (hvals ({ h with pos:=15 })))) _ _ (by simp [upd_at,e3] <;> rfl) (kX (onlT hf.out.1 (onlB hE)) (kX (Nat.le_trans hf.out.2.1 (Below.size hE)) (kX (hpS hf.out.2.2.1 hE) (kX (hpS hf.out.2.2.2.1 hE) (kX (hpS hf.out.2.2.2.2.1 hE) (kX (hpS (jC hf.out).2.1 hE) (kX (fun h9=>own_below ((jC hf.out).2.2.1 h9) hE) (kX (fun h9=>own_below ((jC hf.out).2.2.2.1 h9) hE) (kC (kX (fun _=>rfl) (kX (nU (hn 5 rfl)) (kX (nU (hn 6 rfl)) (kX (nU (hn 7 rfl)) (kX (nU (hn 8 rfl)) (fun _=>nU (hn 11 rfl))))))))))))))) hf.out)
  · intro l s wx hl hd hn hf0 K hK
    have hf:=Lib.hid hf0
    clear hf0
    have e0:=((jD hf.out).1 (hd 0 rfl))
    have e2:=((jD hf.out).2.2.1 (hd 2 rfl))
    have e4:=((jC (jD hf.out)).1 (hd 4 rfl))
    go_simp
    go_at_call 135
    refine (T.out _ ((jC hf.out).2.2.1 hl) ((jC hf.out).2.2.2.1 hl) (Nat.le_trans hlo hf.out.1.2.2.2.1)).mono ?_
    rintro _ wy ⟨⟨y1,y2,rfl,X1,X2,F1,F2⟩,hE⟩
    have hO:=onlB (a:=(Value.slice a1 c.cells.length q1).ownBlock) (b:=(Value.slice a2 c.words.length q2).ownBlock) hE
    refine hK.out (upd (upd (upd s 1003 (y1)) 1004 (y2)) 56 (.tuple #[.agg (cvals x.1 y1 y2),.agg (hvals x.2.1),.bool x.2.2])) _ _ (by simp [upd_at,e0,e2,e4] <;> rfl) (kX (onlT hf.out.1 hO) (kX (Nat.le_trans hf.out.2.1 hO.2.2.2.1) (kX (hp_onl hf.out.2.2.1 hO ((jC hf.out).2.2.1 hl) ((jC hf.out).2.2.2.1 hl) (by decide) (by decide)) (kX (hp_onl hf.out.2.2.2.1 hO ((jC hf.out).2.2.1 hl) ((jC hf.out).2.2.2.1 hl) (by decide) (by decide)) (kX (by (have ee:l 9=false:=hn 9 rfl);(have F:=hf.out.2.2.2.2.1);rw [ee] at F;rw [show upd l 5 true 9=false from ee];exact hp_onl F hO ((jC hf.out).2.2.1 hl) ((jC hf.out).2.2.2.1 hl) (by decide) (by decide)) (kX (by (have ee:l 10=false:=hn 10 rfl);(have F:=(jC hf.out).2.1);rw [ee] at F;rw [show upd l 5 true 10=false from ee];exact hp_onl F hO ((jC hf.out).2.2.1 hl) ((jC hf.out).2.2.2.1 hl) (by decide) (by decide)) (kX (fun h9=>nU h9 (show upd l 5 true 5=true from rfl)) (kX (fun h9=>nU h9 (show upd l 5 true 5=true from rfl)) (kC (kA (kX (fun _=>⟨rfl,X1,X2,fun j hj=>(F1 j hj).imp id (fun h=>Nat.le_trans hf.out.1.2.2.2.1 h),fun j hj=>(F2 j hj).imp id (fun h=>Nat.le_trans hf.out.1.2.2.2.1 h)⟩) (kX (nU (hn 6 rfl)) (kX (nU (hn 7 rfl)) (kX (nU (hn 8 rfl)) (fun _=>nU (hn 11 rfl))))))))))))))) hf.out)
  · intro l s wx hl hd hn hf0 K hK
    have hf:=Lib.hid hf0
    clear hf0
    have e5:=((jC (jD hf.out)).2.1 (hd 5 rfl)).1
    go_simp
    refine hK.out (upd s 57 (.agg (cvals x.1 (s 1003) (s 1004)))) _ _ (by simp [upd_at,e5] <;> rfl) (kD (kC (kB (kX (fun _=>rfl) id))) hf.out)
  · intro l s wx hl hd hn hf0 K hK
    have hf:=Lib.hid hf0
    clear hf0
    have e5:=((jC (jD hf.out)).2.1 (hd 5 rfl)).1
    go_simp
    refine hK.out (upd s 58 (.agg (hvals x.2.1))) _ _ (by simp [upd_at,e5] <;> rfl) (kD (kC (kB (kA (kX (fun _=>rfl) id)))) hf.out)
  · intro l s wx hl hd hn hf0 K hK
    have hf:=Lib.hid hf0
    clear hf0
    have e5:=((jC (jD hf.out)).2.1 (hd 5 rfl)).1
    go_simp
    refine hK.out (upd s 59 (.bool x.2.2)) _ _ (by simp [upd_at,e5] <;> rfl) (kE (kX (fun _=>rfl) id) hf.out)
  · intro l s wx hl hd hn hf0 K hK
    have hf:=Lib.hid hf0
    clear hf0
    have e6:=((jC (jD hf.out)).2.2.1 (hd 6 rfl))
    have e5:=((jC (jD hf.out)).2.1 (hd 5 rfl))
    have X1:=e5.2.1
    have X2:=e5.2.2.1
    clear e5
    have zr:=hf.out.2.2.2.2.1
    rw [hl] at zr
    dsimp only [cond] at zr
    obtain ⟨xa,xp,ea,_⟩:=X1.seg
    obtain ⟨xb,xq,eb2,_⟩:=X2.seg
    rw [ea,eb2] at e6
    have zn:hp (setBox wx (w.heap.size+1+1) (cvals x.1 (.slice xa x.1.cells.length xp) (.slice xb x.1.words.length xq))) (w.heap.size+1+1)=some (.cells (cvals x.1 (s 1003) (s 1004)) 34):=by rw [ea,eb2];exact hp_set zr
    have hO:=hf.out.1
    go_simp
    refine hK.out (s) _ _ (by simp [upd_at,e6,ea,eb2] <;> rfl) (kX (oX hO (by omega)) (kX (Nat.le_trans hf.out.2.1 (Nat.le_of_eq bx_size.symm)) (kX ((bx_heap_ne (by omega)).trans hf.out.2.2.1) (kX ((bx_heap_ne (by omega)).trans hf.out.2.2.2.1) (kX (zn) (kX ((bx_heap_ne (by omega)).trans (jC hf.out).2.1) (kX (fun h9=>nU h9 (show upd l 9 true 5=true from hd 5 rfl)) (kX (fun h9=>nU h9 (show upd l 9 true 5=true from hd 5 rfl)) (kC (kA (kX (fun h=>(let ⟨e,X1,X2,F1,F2⟩:=(jC (jD hf.out)).2.1 h;⟨e,own_far X1 zr (by decide),own_far X2 zr (by decide),F1,F2⟩)) id)))))))))) hf.out)
  · intro l s wx hl hd hn hf0 K hK
    have hf:=Lib.hid hf0
    clear hf0
    have e7:=((jC (jD hf.out)).2.2.2.1 (hd 7 rfl))
    have e5:=((jC (jD hf.out)).2.1 (hd 5 rfl))
    have X1:=e5.2.1
    have X2:=e5.2.2.1
    clear e5
    have zr:=(jC hf.out).2.1
    rw [hl] at zr
    dsimp only [cond] at zr
    have zn:hp (setBox wx (w.heap.size+1+1+1) (hvals x.2.1)) (w.heap.size+1+1+1)=some (.cells (hvals x.2.1) 70):=by exact hp_set zr
    have hO:=hf.out.1
    go_simp
    refine hK.out (s) _ _ (by simp [upd_at,e7] <;> rfl) (kX (oX hO (by omega)) (kX (Nat.le_trans hf.out.2.1 (Nat.le_of_eq bx_size.symm)) (kX ((bx_heap_ne (by omega)).trans hf.out.2.2.1) (kX ((bx_heap_ne (by omega)).trans hf.out.2.2.2.1) (kX ((bx_heap_ne (by omega)).trans hf.out.2.2.2.2.1) (kX (zn) (kX (fun h9=>nU h9 (show upd l 10 true 5=true from hd 5 rfl)) (kX (fun h9=>nU h9 (show upd l 10 true 5=true from hd 5 rfl)) (kC (kA (kX (fun h=>(let ⟨e,X1,X2,F1,F2⟩:=(jC (jD hf.out)).2.1 h;⟨e,own_far X1 zr (by decide),own_far X2 zr (by decide),F1,F2⟩)) id)))))))))) hf.out)
  · intro l s wx hl hd hn hf0 K hK
    have hf:=Lib.hid hf0
    clear hf0
    have e8:=((jE hf.out).1 (hd 8 rfl))
    go_simp
    refine hK.out (upd s 6 (.bool x.2.2)) _ _ (by simp [upd_at,e8] <;> rfl) (kE (kA (fun _=>fun _=>rfl)) hf.out)
set_option maxRecDepth 100000 in
set_option maxHeartbeats 2000000 in
theorem recvTouch_14 (c:Ch) (h:Ha) (v1 v2:Value) (lo:Nat) (w:World) (h1:OCells w lo v1 c.cells) (h2:OInts w lo v2 c.words) (hc0:0≤h.cell) (hc1:h.cell<c.cells.length) (hk:(h.code != 2)=false) (hq:(h.pos == 14)=true) :
    Calls Tryz.prog 128 #[.agg (cvals c v1 v2),.agg (hvals h)] w fun r w'=>StepO w w' lo v1 v2 ((stateC c h.cell 7,grow7 h 0,true)) r:=by
  obtain ⟨i,hci⟩:∃ i:Nat,h.cell=(i:Int):=⟨h.cell.toNat,by omega⟩
  have hi:i<c.cells.length:=by omega
  have hi0:(0:Int)≤(i:Int):=by omega
  have hi1:(i:Int)<(c.cells.length:Int):=by omega
  have hne:=h1.ne h2
  obtain ⟨a2,q2,rfl,_⟩:=h2.seg
  obtain ⟨g,q1,rfl,hlo1,hlt,hcell,hfr⟩:=h1.open1 hi
  have O1:=Lib.hid h1
  have O2:=Lib.hid h2
  have lg0:g<w.heap.size+1:=by omega
  have lg1:g<w.heap.size+1+1:=by omega
  have lg2:g<w.heap.size+1+1+1:=by omega
  have ng0:g≠w.heap.size:=by omega
  have ng1:g≠w.heap.size+1:=by omega
  have ng2:g≠w.heap.size+1+1:=by omega
  have ng3:g≠w.heap.size+1+1+1:=by omega
  have mg0:w.heap.size≠g:=by omega
  have mg1:w.heap.size+1≠g:=by omega
  have mg2:w.heap.size+1+1≠g:=by omega
  have mg3:w.heap.size+1+1+1≠g:=by omega
  have hx:Hid (cellAt c h.cell=c.cells.getD i ⟨0,0,0⟩):=by simp [cellAt,Hid,hci]
  have c0:=hcell 0 (by omega)
  have c1:=hcell 1 (by omega)
  have c2:=hcell 2 (by omega)
  simp only [C3.val,Nat.add_zero] at c0 c1 c2
  rw [show stateC c h.cell 7=stateC c i 7 by rw [hci]]
  have e1:=stateC_cells c i 7
  have P1:=fun W (o:OCells W lo (.slice (some ⟨g,0,none⟩) c.cells.length q1) c.cells)=>OCells.setS o hi 7
  rw [← e1] at P1
  clear hx hcell h1 h2 e1
  generalize c.cells.getD i ⟨0,0,0⟩=x at *
  have o1:=O1.out
  have o2:=O2.out
  have n9:(h.pos == 9)=false:=by simp at hq ⊢;omega
  have n10:(h.pos == 10)=false:=by simp at hq ⊢;omega
  have n11:(h.pos == 11)=false:=by simp at hq ⊢;omega
  have n12:(h.pos == 12)=false:=by simp at hq ⊢;omega
  have n13:(h.pos == 13)=false:=by simp at hq ⊢;omega
  go_enter Tryz.func128,Tryz.ntmps128
  have P2:=own_store (p:=⟨g,i*3,none⟩) o2 (hne g rfl) (.int .i64 7)
  go_wp2_with fail
  go_region_held3 (fun w'=>hp w' w.heap.size=some (.cells (cvals c (.slice (some ⟨g,0,none⟩) c.cells.length q1) (.slice a2 c.words.length q2)) 34)∧hp w' (w.heap.size+1)=some (.cells (hvals h) 70))
    (first|(simp [*,go_sem]))
    (first|(go_at_call 136;refine (growing_any h 0 _).mono ?_;rintro _ w1 ⟨rfl,hbw1⟩;have hGw1:Gr g w w1:=gT (by (repeat (first|with_reducible assumption|with_reducible exact gR _ _|with_reducible refine gA ?_|with_reducible refine gD ?_|with_reducible refine gS ?_ (.inl rfl)|((with_reducible refine gBx ?_ (.inr ?_));rotate_left;(focus ((try dsimp only);(try simp);(try omega))))|((with_reducible refine gS ?_ (.inr ?_));rotate_left;(focus ((try dsimp only);(try simp);(try omega))))))) (gOfB hbw1);have hsw1:=hbw1.size;(try (simp at hsw1));have zz:=hQ hbw1 (b:=w.heap.size);(first|(simp [go_sem,z_w,l_w,hlt,lg0,lg1,lg2] at zz)|(simp [go_sem,hlt,lg0,lg1,lg2] at zz));(try clear x_w f_w);(try clear z_w);have z_w:=zz;clear zz;(try clear l_w);obtain ⟨x_w,f_w,l_w⟩:=bO z_w;have zz:=hQ hbw1 (b:=w.heap.size+1);(first|(simp [go_sem,z_wp,l_wp,hlt,lg0,lg1,lg2] at zz)|(simp [go_sem,hlt,lg0,lg1,lg2] at zz));(try clear x_wp f_wp);(try clear z_wp);have z_wp:=zz;clear zz;(try clear l_wp);obtain ⟨x_wp,f_wp,l_wp⟩:=bO z_wp;have zz:=hQ hbw1 (b:=w.heap.size+1+1);(first|(simp [go_sem,z_wpp,l_wpp,hlt,lg0,lg1,lg2] at zz)|(simp [go_sem,hlt,lg0,lg1,lg2] at zz));(try clear x_wpp f_wpp);(try clear z_wpp);have z_wpp:=zz;clear zz;(try clear l_wpp);obtain ⟨x_wpp,f_wpp,l_wpp⟩:=bO z_wpp;have zz:=hQ hbw1 (b:=w.heap.size+1+1+1);(first|(simp [go_sem,z_wppp,l_wppp,hlt,lg0,lg1,lg2] at zz)|(simp [go_sem,hlt,lg0,lg1,lg2] at zz));(try clear x_wppp f_wppp);(try clear z_wppp);have z_wppp:=zz;clear zz;(try clear l_wppp);obtain ⟨x_wppp,f_wppp,l_wppp⟩:=bO z_wppp;have p1:OCells w1 lo (.slice (some ⟨g,0,none⟩) c.cells.length q1) (stateC c i 7).cells:=own_below (by exact zO (P1 _ o1) o1) hbw1;have p2:OInts w1 lo (.slice a2 c.words.length q2) c.words:=own_below (by exact zO P2 o2) hbw1))
  go_wp2
  refine bodyPost_ret (res_cct Tryz.results128 rfl (ldChan (stateC c i 7) (.slice (some ⟨g,0,none⟩) c.cells.length q1) (.slice a2 c.words.length q2) (by simp [go_sem, *] <;> rfl)) rfl (ldHand (grow7 h 0) (by simp [go_sem, *] <;> first|rfl|simp [grow7,hci]))) rfl ⟨⟨_,_,rfl,?_,?_,fresh_refl _ _,fresh_refl _ _⟩,onl1 (show w.grownBy _ (some g) from (by (repeat (first|with_reducible assumption|with_reducible exact gR _ _|with_reducible refine gA ?_|with_reducible refine gD ?_|with_reducible refine gS ?_ (.inl rfl)|((with_reducible refine gBx ?_ (.inr ?_));rotate_left;(focus ((try dsimp only);(try simp);(try omega))))|((with_reducible refine gS ?_ (.inr ?_));rotate_left;(focus ((try dsimp only);(try simp);(try omega))))))))⟩
  · show OCells _ lo (.slice (some ⟨g,0,none⟩) c.cells.length q1) (stateC c i 7).cells
    exact zO p1 o1
  · show OInts _ lo (.slice a2 c.words.length q2) c.words
    exact zO p2 o2
set_option maxRecDepth 100000 in
set_option maxHeartbeats 2000000 in
theorem recvTouch_15 (c:Ch) (h:Ha) (v1 v2:Value) (lo:Nat) (w:World) (h1:OCells w lo v1 c.cells) (h2:OInts w lo v2 c.words) (hc0:0≤h.cell) (hc1:h.cell<c.cells.length) (hcall:callOk h.code h.elem=true) (hk:(h.code != 2)=false) (hq:(h.pos == 15)=true) :
    Calls Tryz.prog 128 #[.agg (cvals c v1 v2),.agg (hvals h)] w fun r w'=>StepO w w' lo v1 v2 ((stateC c h.cell 9,anew h,true)) r:=by
  obtain ⟨i,hci⟩:∃ i:Nat,h.cell=(i:Int):=⟨h.cell.toNat,by omega⟩
  have hi:i<c.cells.length:=by omega
  have hi0:(0:Int)≤(i:Int):=by omega
  have hi1:(i:Int)<(c.cells.length:Int):=by omega
  have hne:=h1.ne h2
  obtain ⟨a2,q2,rfl,_⟩:=h2.seg
  obtain ⟨g,q1,rfl,hlo1,hlt,hcell,hfr⟩:=h1.open1 hi
  have O1:=Lib.hid h1
  have O2:=Lib.hid h2
  have lg0:g<w.heap.size+1:=by omega
  have lg1:g<w.heap.size+1+1:=by omega
  have lg2:g<w.heap.size+1+1+1:=by omega
  have ng0:g≠w.heap.size:=by omega
  have ng1:g≠w.heap.size+1:=by omega
  have ng2:g≠w.heap.size+1+1:=by omega
  have ng3:g≠w.heap.size+1+1+1:=by omega
  have mg0:w.heap.size≠g:=by omega
  have mg1:w.heap.size+1≠g:=by omega
  have mg2:w.heap.size+1+1≠g:=by omega
  have mg3:w.heap.size+1+1+1≠g:=by omega
  have hx:Hid (cellAt c h.cell=c.cells.getD i ⟨0,0,0⟩):=by simp [cellAt,Hid,hci]
  have c0:=hcell 0 (by omega)
  have c1:=hcell 1 (by omega)
  have c2:=hcell 2 (by omega)
  simp only [C3.val,Nat.add_zero] at c0 c1 c2
  rw [show stateC c h.cell 9=stateC c i 9 by rw [hci]]
  have e1:=stateC_cells c i 9
  have P1:=fun W (o:OCells W lo (.slice (some ⟨g,0,none⟩) c.cells.length q1) c.cells)=>OCells.setS o hi 9
  rw [← e1] at P1
  clear hx hcell h1 h2 e1
  generalize c.cells.getD i ⟨0,0,0⟩=x at *
  have o1:=O1.out
  have o2:=O2.out
  obtain ⟨y0,hy0⟩:∃ y0,anew h=y0:=⟨_,rfl⟩
  have AN:=Lib.hid fun W=>anew_any h hcall W
  rw [hy0] at AN
  rw [hy0]
  clear hy0 hcall
  have n9:(h.pos == 9)=false:=by simp at hq ⊢;omega
  have n10:(h.pos == 10)=false:=by simp at hq ⊢;omega
  have n11:(h.pos == 11)=false:=by simp at hq ⊢;omega
  have n12:(h.pos == 12)=false:=by simp at hq ⊢;omega
  have n13:(h.pos == 13)=false:=by simp at hq ⊢;omega
  have n14:(h.pos == 14)=false:=by simp at hq ⊢;omega
  go_enter Tryz.func128,Tryz.ntmps128
  have P2:=own_store (p:=⟨g,i*3,none⟩) o2 (hne g rfl) (.int .i64 9)
  go_wp2_with fail
  go_region_held3 (fun w'=>hp w' w.heap.size=some (.cells (cvals c (.slice (some ⟨g,0,none⟩) c.cells.length q1) (.slice a2 c.words.length q2)) 34)∧hp w' (w.heap.size+1)=some (.cells (hvals h) 70))
    (first|(simp [*,go_sem]))
    (first|(go_at_call 137;refine (AN.out _).mono ?_;rintro _ w1 ⟨rfl,hbw1⟩;have hGw1:Gr g w w1:=gT (by (repeat (first|with_reducible assumption|with_reducible exact gR _ _|with_reducible refine gA ?_|with_reducible refine gD ?_|with_reducible refine gS ?_ (.inl rfl)|((with_reducible refine gBx ?_ (.inr ?_));rotate_left;(focus ((try dsimp only);(try simp);(try omega))))|((with_reducible refine gS ?_ (.inr ?_));rotate_left;(focus ((try dsimp only);(try simp);(try omega))))))) (gOfB hbw1);have hsw1:=hbw1.size;(try (simp at hsw1));have zz:=hQ hbw1 (b:=w.heap.size);(first|(simp [go_sem,z_w,l_w,hlt,lg0,lg1,lg2] at zz)|(simp [go_sem,hlt,lg0,lg1,lg2] at zz));(try clear x_w f_w);(try clear z_w);have z_w:=zz;clear zz;(try clear l_w);obtain ⟨x_w,f_w,l_w⟩:=bO z_w;have zz:=hQ hbw1 (b:=w.heap.size+1);(first|(simp [go_sem,z_wp,l_wp,hlt,lg0,lg1,lg2] at zz)|(simp [go_sem,hlt,lg0,lg1,lg2] at zz));(try clear x_wp f_wp);(try clear z_wp);have z_wp:=zz;clear zz;(try clear l_wp);obtain ⟨x_wp,f_wp,l_wp⟩:=bO z_wp;have zz:=hQ hbw1 (b:=w.heap.size+1+1);(first|(simp [go_sem,z_wpp,l_wpp,hlt,lg0,lg1,lg2] at zz)|(simp [go_sem,hlt,lg0,lg1,lg2] at zz));(try clear x_wpp f_wpp);(try clear z_wpp);have z_wpp:=zz;clear zz;(try clear l_wpp);obtain ⟨x_wpp,f_wpp,l_wpp⟩:=bO z_wpp;have zz:=hQ hbw1 (b:=w.heap.size+1+1+1);(first|(simp [go_sem,z_wppp,l_wppp,hlt,lg0,lg1,lg2] at zz)|(simp [go_sem,hlt,lg0,lg1,lg2] at zz));(try clear x_wppp f_wppp);(try clear z_wppp);have z_wppp:=zz;clear zz;(try clear l_wppp);obtain ⟨x_wppp,f_wppp,l_wppp⟩:=bO z_wppp;have p1:OCells w1 lo (.slice (some ⟨g,0,none⟩) c.cells.length q1) (stateC c i 9).cells:=own_below (by exact zO (P1 _ o1) o1) hbw1;have p2:OInts w1 lo (.slice a2 c.words.length q2) c.words:=own_below (by exact zO P2 o2) hbw1))
  go_wp2
  refine bodyPost_ret (res_cct Tryz.results128 rfl (ldChan (stateC c i 9) (.slice (some ⟨g,0,none⟩) c.cells.length q1) (.slice a2 c.words.length q2) (by simp [go_sem, *] <;> rfl)) rfl (ldHand y0 (by simp [go_sem, *] <;> first|rfl|simp [grow7,hci]))) rfl ⟨⟨_,_,rfl,?_,?_,fresh_refl _ _,fresh_refl _ _⟩,onl1 (show w.grownBy _ (some g) from (by (repeat (first|with_reducible assumption|with_reducible exact gR _ _|with_reducible refine gA ?_|with_reducible refine gD ?_|with_reducible refine gS ?_ (.inl rfl)|((with_reducible refine gBx ?_ (.inr ?_));rotate_left;(focus ((try dsimp only);(try simp);(try omega))))|((with_reducible refine gS ?_ (.inr ?_));rotate_left;(focus ((try dsimp only);(try simp);(try omega))))))))⟩
  · show OCells _ lo (.slice (some ⟨g,0,none⟩) c.cells.length q1) (stateC c i 9).cells
    exact zO p1 o1
  · show OInts _ lo (.slice a2 c.words.length q2) c.words
    exact zO p2 o2
theorem fin7_done7 {c:Ch} {h:Ha}:fin7 (c,h,true)=done c h:=rfl
theorem fin7_tnS {c:Ch} {st wt:Int} {y z:Ha}:fin7 (tnS c st wt y z)=if turnCB c y.cell y.seen st wt then done (turnC c y.cell y.seen st wt) y else done (turnC c y.cell y.seen st wt) z:=by
  unfold tnS
  cases ht:turnCB c y.cell y.seen st wt with
  | true=>rfl
  | false=>rw [turnC_same7 ht];rfl
theorem fin7_nothing:fin7 nothing=nothing:=by simp [fin7,nothing,chanOk,chanHead,Ch.zero]
theorem tellC_no7 {c:Ch} {w word:Int} (h:tellB c w word=false):tellC c w word=c:=by simp [tellC,h]
theorem fin7_wtS {c:Ch} {h:Ha}:fin7 (wtS c 4 (grow7 h 1) { h with pos:=10 })=done (wait6 c h 4 16 10).1 (then7 (wait6 c h 4 16 10).2):=by
  unfold wtS wait6
  by_cases hf:80≤c.words.length
  · simp only [hf,if_true];rfl
  · simp only [hf,if_false]
    cases ht:turnCB c h.cell h.seen 4 (c.words.length+1) with
    | true =>
      rw [show turnCB c (grow7 h 1).cell (grow7 h 1).seen 4 (c.words.length+1)=true from ht]
      simp only [if_true]
      rfl
    | false =>
      rw [show turnCB c (grow7 h 1).cell (grow7 h 1).seen 4 (c.words.length+1)=false from ht]
      simp only [Bool.false_eq_true,if_false]
      rw [turnC_same7 ht]
      rfl
theorem fin7_takeR (c:Ch) (h:Ha):fin7 (takeR c h)=take7P c h:=by
  unfold takeR take7P take7
  by_cases h2:h.seen=2
  · simp only [h2,beq_self_eq_true,if_true,show ((2:Int) == 3)=false from rfl,Bool.false_eq_true,if_false]
    rw [fin7_tnS]
    simp only [turn7,h2,grow7]
  by_cases h3:h.seen=3
  · have e2:(h.seen == 2)=false:=by simpa using h2
    have e3:(h.seen == 3)=true:=by simpa using h3
    simp only [e2,e3,if_true,Bool.false_eq_true,if_false]
    rw [fin7_tnS]
    rfl
  · have e2:(h.seen == 2)=false:=by simpa using h2
    have e3:(h.seen == 3)=false:=by simpa using h3
    simp only [e2,e3,Bool.false_eq_true,if_false]
    split
    · exact fin7_nothing
    · split
      · rw [fin7_tnS];rfl
      · exact fin7_wtS
theorem recvTouch_any (c:Ch) (h:Ha) (hc:chanOk c=true) (hh:handOk h=true):∃ x:St,recvStepP c h=fin7 x∧∀ (v1 v2:Value) (lo:Nat) (W:World),OCells W lo v1 c.cells→OInts W lo v2 c.words→lo≤W.heap.size→Calls Tryz.prog 128 #[.agg (cvals c v1 v2),.agg (hvals h)] W fun r w'=>StepO W w' lo v1 v2 x r:=by
  cases hk:(h.code != 2) with
  | true =>
    have hk2:¬ h.code=2:=by simpa using hk
    have hno:stepOk c h 9 15 2=false:=by simp [stepOk,hk2]
    exact ⟨nothing,by rw [fin7_nothing];simp [recvStepP,recvStep,hno],fun v1 v2 lo W o1 o2 _=>recvTouch_no c h v1 v2 lo W o1 o2 hk⟩
  | false =>
    have hk2:h.code=2:=by simpa using hk
    obtain ⟨hc0,hc9⟩:=hand_cell hh
    have hc1:h.cell<c.cells.length:=by have:=(chan_len hc).1;omega
    by_cases hr:9≤h.pos∧h.pos≤15
    · have hok:stepOk c h 9 15 2=true:=by
        have:inB h.pos 9 15=true:=by simp [inB];omega
        simp [stepOk,hc,hh,this,hk2]
      have hcall:callOk h.code h.elem=true:=by
        have:=hh
        simp only [handOk,handA,Bool.and_eq_true,inB_iff] at this
        have h0:¬ h.pos=0:=by omega
        simp [h0] at this
        exact this.1.2
      have hps:h.pos=9∨h.pos=10∨h.pos=11∨h.pos=12∨h.pos=13∨h.pos=14∨h.pos=15:=by omega
      rcases hps with hp|hp|hp|hp|hp|hp|hp
      · refine ⟨numR c h,?_,fun v1 v2 lo W o1 o2 _=>recvTouch_9 c h v1 v2 lo W o1 o2 (chan_got hc) hk (by simpa using hp)⟩
        by_cases hg:c.got=40
        · simp [recvStepP,recvStep,hok,hp,recv1,numR,hg,fin7_done7]
        · simp [recvStepP,recvStep,hok,hp,recv1,numR,hg,fin7_done7]
      · refine ⟨viewR c h,?_,fun v1 v2 lo W o1 o2 _=>recvTouch_10 c h v1 v2 lo W o1 o2 hc0 hc1 hcall hk (by simpa using hp)⟩
        simp only [recvStepP,recvStep,hok,hp,recv2,viewR]
        by_cases h6:(cellAt c h.cell).s=6
        · simp [h6,fin7,hc,hh]
        · cases hv:(view7 c h).2 with
          | true=>simp [h6,fin7_done7]
          | false=>simp [h6,fin7_nothing]
      · refine ⟨(c,{ h with come:=c.sent,pos:=12 },true),?_,fun v1 v2 lo W o1 o2 _=>recvTouch_11 c h v1 v2 lo W o1 o2 hk (by simpa using hp)⟩
        simp [recvStepP,recvStep,hok,hp,fin7_done7]
      · refine ⟨takeR c h,?_,fun v1 v2 lo W o1 o2 hl=>recvTouch_12 c h v1 v2 lo W o1 o2 hc0 hc1 hc hl hk (by simpa using hp)⟩
        rw [fin7_takeR]
        simp [recvStepP,hok,hp]
      · refine ⟨wkS c { h with pos:=14 } { h with pos:=15 },?_,fun v1 v2 lo W o1 o2 hl=>recvTouch_13 c h v1 v2 lo W o1 o2 hc hl hk (by simpa using hp)⟩
        unfold wkS
        cases ht:tellB c h.wait 1 with
        | true=>simp [recvStepP,recvStep,hok,hp,wake7,ht,fin7_done7]
        | false=>simp [recvStepP,recvStep,hok,hp,wake7,ht,fin7_done7,tellC_no7 ht]
      · refine ⟨(stateC c h.cell 7,grow7 h 0,true),?_,fun v1 v2 lo W o1 o2 _=>recvTouch_14 c h v1 v2 lo W o1 o2 hc0 hc1 hk (by simpa using hp)⟩
        simp [recvStepP,recvStep,hok,hp,fin7_done7]
      · refine ⟨(stateC c h.cell 9,anew h,true),?_,fun v1 v2 lo W o1 o2 _=>recvTouch_15 c h v1 v2 lo W o1 o2 hc0 hc1 hcall hk (by simpa using hp)⟩
        simp [recvStepP,recvStep,hok,hp,fin7_done7]
    · have hno:stepOk c h 9 15 2=false:=by
        have:inB h.pos 9 15=false:=by simp [inB];omega
        simp [stepOk,this]
      have far:∀ k:Int,9≤k→k≤15→(h.pos == k)=false:=fun k h1 h2=>by simp;omega
      exact ⟨nothing,by rw [fin7_nothing];simp [recvStepP,recvStep,hno],fun v1 v2 lo W o1 o2 _=>recvTouch_far c h v1 v2 lo W o1 o2 hk (far 9 (by omega) (by omega)) (far 10 (by omega) (by omega)) (far 11 (by omega) (by omega)) (far 12 (by omega) (by omega)) (far 13 (by omega) (by omega)) (far 14 (by omega) (by omega)) (far 15 (by omega) (by omega))⟩
set_option maxRecDepth 100000 in
set_option maxHeartbeats 2000000 in
theorem recvStepI_any (c:Ch) (h:Ha) (a b:Option Addr) (p q:Nat) (w:World) (h1:Seg w w.heap.size a c.cells.length 3 (cellF c.cells)) (z1:a=none→p=0) (h2:Seg w w.heap.size b c.words.length 1 (intF c.words)) (z2:b=none→q=0) (l1:c.cells.length≤maxLen) (l2:c.words.length≤maxLen) :
    Calls Tryz.prog 126 #[.agg (cvals c (.slice a c.cells.length p) (.slice b c.words.length q)),.agg (hvals h)] w fun r w'=>StepN w w' (recvStepP c h) r:=by
  have K:∀ (w:World),Seg w w.heap.size a c.cells.length 3 (cellF c.cells)→(a=none→p=0)→Seg w w.heap.size b c.words.length 1 (intF c.words)→(b=none→q=0)→Calls Tryz.prog 127 #[.func (.func 128) #[] #[],.agg (cvals c (.slice a c.cells.length p) (.slice b c.words.length q)),.agg (hvals h)] w fun r w'=>StepN w w' (recvStepP c h) r:=by
    intro w h1 z1 h2 z2
    cases hc:chanOk c with
    | false =>
      rw [show recvStepP c h=nothing by simp [recvStepP,recvStep,stepOk,hc]]
      exact touched_no1 _ c h a b p q w h1 z1 h2 z2 l1 l2 hc
    | true =>
      cases hh:handOk h with
      | false =>
        rw [show recvStepP c h=nothing by simp [recvStepP,recvStep,stepOk,hh]]
        exact touched_no2 _ c h a b p q w h1 z1 h2 z2 l1 l2 hc hh
      | true =>
        obtain ⟨x,e,HT⟩:=recvTouch_any c h hc hh
        rw [e]
        exact touched_via _ x c h a b p q w h1 z1 h2 z2 hc hh (fun args w=>by simp [go_sem]) HT
  generalize recvStepP c h=x at *
  have T:=Lib.hid K
  have H1:=Lib.hid h1
  have H2:=Lib.hid h2
  have Z1:=Lib.hid z1
  have Z2:=Lib.hid z2
  clear h1 h2 z1 z2 K
  have d1:∀ j,(Value.slice none 0 0).ownBlock=some j→w.heap.size+1+1+1+1≤j:=fun j hj=>by cases hj
  have d2:=d1
  go_enter Tryz.func126,Tryz.ntmps126
  go_wp2_with fail;refine bHit w (by exact zB) fun bb=>?_;refine (T.out _ ((H1.out.below bb).more bb.size) Z1.out ((H2.out.below bb).more bb.size) Z2.out).mono ?_;rintro _ w9 ⟨⟨y1,y2,rfl,oY1,oY2,fY1,fY2⟩,hbw9⟩;have hCw9:Below w.heap.size w w9:=bT bb hbw9;have hsw9:=hbw9.size;(try simp at hsw9);have zz:=q4 hbw9 (b:=w.heap.size);(try simp [go_sem] at zz);(try clear z_wppp x_wppp f_wppp l_wppp);(try clear z_wpp x_wpp f_wpp l_wpp);(try clear z_wp x_wp f_wp l_wp);(try clear z_w x_w f_w l_w);obtain ⟨z_wppp,z_wpp,z_wp,z_w⟩:=zz;obtain ⟨x_wppp,f_wppp,l_wppp⟩:=bO z_wppp;obtain ⟨x_wpp,f_wpp,l_wpp⟩:=bO z_wpp;obtain ⟨x_wp,f_wp,l_wp⟩:=bO z_wp;obtain ⟨x_w,f_w,l_w⟩:=bO z_w;clear hbw9 bb
  replace oY1:OCells w9 w.heap.size y1 x.1.cells:=own_lo oY1 (by simp;omega)
  replace oY2:OInts w9 w.heap.size y2 x.1.words:=own_lo oY2 (by simp;omega)
  have hoff1:∀ j,w.heap.size≤j→j<w.heap.size+1+1+1+1→y1.ownBlock≠some j:=fun j _ h2=>fY1.off2 d1 h2 (by (try simp) <;> omega);have hoff2:∀ j,w.heap.size≤j→j<w.heap.size+1+1+1+1→y2.ownBlock≠some j:=fun j _ h2=>fY2.off2 d2 h2 (by (try simp) <;> omega);have fr1:Fresh w (.slice none 0 0) y1:=fun j hj=>.inr (fY1.up d1 (by (try simp) <;> omega) (by (try simp) <;> omega) j hj);have fr2:Fresh w (.slice none 0 0) y2:=fun j hj=>.inr (fY2.up d2 (by (try simp) <;> omega) (by (try simp) <;> omega) j hj);obtain ⟨ya,yp,rfl,_⟩:=oY1.seg;obtain ⟨yb,yq,rfl,_⟩:=oY2.seg
  go_wp2
  refine bodyPost_ret (res_cct Tryz.results126 rfl (ldChan x.1 (.slice ya x.1.cells.length yp) (.slice yb x.1.words.length yq) (by simp [go_sem, *])) rfl (ldHand x.2.1 (by simp [go_sem, *]))) rfl ⟨⟨_,_,rfl,?_,?_,fr1,fr2⟩,by exact zB⟩
  · exact zP oY1 oY1 hoff1
  · exact zP oY2 oY2 hoff2
end Go.Proofs.YtmnpgkcdfielbaaGreat
set_option linter.unusedSimpArgs false
set_option linter.unusedVariables false
namespace Go.Proofs.YtmnpgkcdfielbaaGreat
open Go.RowKit
set_option linter.unusedSimpArgs false
attribute [local simp] bx_size
attribute [local go_sem ↓] zeroHand zeroChan toLHand toLChan toVHand toVChan storeHand storeChan storeHandC storeChanC
set_option maxRecDepth 100000 in
set_option maxHeartbeats 2000000 in
theorem grown_1 (h:Ha) (w:World) (n1:(h.nxt == 1)=true):Calls Tryz.prog 158 #[.agg (hvals h)] w fun r w'=>r=.returned (.agg (hvals { h with pos:=23 }))∧Below w.heap.size w w':=by
  go_enter Tryz.func158,Tryz.ntmps158
  go_wp2_with fail;refine bHit w (by exact zB) fun bb=>?_;refine (moved_any _ _ _).mono ?_;rintro _ w1 ⟨rfl,hbw1⟩;have hCw1:Below w.heap.size w w1:=bT bb hbw1;have hsw1:=hbw1.size;(try simp at hsw1);have zz:=And.intro (hQ hbw1 (b:=w.heap.size+1)) <| hQ hbw1 (b:=w.heap.size);(try simp [go_sem] at zz);(try clear z_wp x_wp f_wp l_wp);(try clear z_w x_w f_w l_w);obtain ⟨z_wp,z_w⟩:=zz;obtain ⟨x_wp,f_wp,l_wp⟩:=bO z_wp;obtain ⟨x_w,f_w,l_w⟩:=bO z_w;clear hbw1 bb
  go_wp2
  exact bodyPost_ret (res_c Tryz.results158 rfl (ldHand { h with pos:=23 } (by simp [go_sem, *] <;> rfl))) rfl ⟨rfl,by exact zB⟩
set_option maxRecDepth 100000 in
set_option maxHeartbeats 2000000 in
theorem grown_2 (h:Ha) (w:World) (n1:(h.nxt == 1)=false) (n2:(h.nxt == 2)=true) (hk:callOk h.code h.elem=true):Calls Tryz.prog 158 #[.agg (hvals h)] w fun r w'=>r=.returned (.agg (hvals (anew h)))∧Below w.heap.size w w':=by
  obtain ⟨y0,hy0⟩:∃ y0,anew h=y0:=⟨_,rfl⟩
  have AN:=Lib.hid fun W=>anew_any h hk W
  rw [hy0] at AN
  rw [hy0]
  clear hy0 hk
  go_enter Tryz.func158,Tryz.ntmps158
  go_wp2_with fail;refine bHit w (by exact zB) fun bb=>?_;refine (AN.out _).mono ?_;rintro _ w1 ⟨rfl,hbw1⟩;have hCw1:Below w.heap.size w w1:=bT bb hbw1;have hsw1:=hbw1.size;(try simp at hsw1);have zz:=And.intro (hQ hbw1 (b:=w.heap.size+1)) <| hQ hbw1 (b:=w.heap.size);(try simp [go_sem] at zz);(try clear z_wp x_wp f_wp l_wp);(try clear z_w x_w f_w l_w);obtain ⟨z_wp,z_w⟩:=zz;obtain ⟨x_wp,f_wp,l_wp⟩:=bO z_wp;obtain ⟨x_w,f_w,l_w⟩:=bO z_w;clear hbw1 bb
  go_wp2
  exact bodyPost_ret (res_c Tryz.results158 rfl (ldHand y0 (by simp [go_sem, *] <;> rfl))) rfl ⟨rfl,by exact zB⟩
set_option maxRecDepth 100000 in
set_option maxHeartbeats 2000000 in
theorem grown_0 (h:Ha) (w:World) (n1:(h.nxt == 1)=false) (n2:(h.nxt == 2)=false):Calls Tryz.prog 158 #[.agg (hvals h)] w fun r w'=>r=.returned (.agg (hvals (resting 2 h.out)))∧Below w.heap.size w w':=by
  go_enter Tryz.func158,Tryz.ntmps158
  go_wp2_with fail;refine bHit w (by exact zB) fun bb=>?_;refine (resting_any _ _ _).mono ?_;rintro _ w1 ⟨rfl,hbw1⟩;have hCw1:Below w.heap.size w w1:=bT bb hbw1;have hsw1:=hbw1.size;(try simp at hsw1);have zz:=And.intro (hQ hbw1 (b:=w.heap.size+1)) <| hQ hbw1 (b:=w.heap.size);(try simp [go_sem] at zz);(try clear z_wp x_wp f_wp l_wp);(try clear z_w x_w f_w l_w);obtain ⟨z_wp,z_w⟩:=zz;obtain ⟨x_wp,f_wp,l_wp⟩:=bO z_wp;obtain ⟨x_w,f_w,l_w⟩:=bO z_w;clear hbw1 bb
  go_wp2
  exact bodyPost_ret (res_c Tryz.results158 rfl (ldHand (resting 2 h.out) (by simp [go_sem, *] <;> rfl))) rfl ⟨rfl,by exact zB⟩
theorem grown_any (h:Ha) (w:World) (hk:callOk h.code h.elem=true) (hn:0≤h.nxt∧h.nxt≤2):Calls Tryz.prog 158 #[.agg (hvals h)] w fun r w'=>r=.returned (.agg (hvals (grown8 h)))∧Below w.heap.size w w':=by
  by_cases h1:h.nxt=1
  · rw [show grown8 h={ h with pos:=23 } by simp [grown8,h1]]
    exact grown_1 h w (by simpa using h1)
  by_cases h2:h.nxt=2
  · rw [show grown8 h=anew h by simp [grown8,h2]]
    exact grown_2 h w (by simpa using h1) (by simpa using h2) hk
  · have h0:h.nxt=0:=by omega
    rw [show grown8 h=resting 2 h.out by simp [grown8,h0]]
    exact grown_0 h w (by simpa using h1) (by simpa using h2)
set_option maxRecDepth 100000 in
set_option maxHeartbeats 2000000 in
theorem growNumber_any (c:Ch) (h:Ha) (v1 v2:Value) (lo:Nat) (w:World) (h1:OCells w lo v1 c.cells) (h2:OInts w lo v2 c.words) (hsr:0≤c.fin∧c.fin≤40) :
    Calls Tryz.prog 156 #[.agg (cvals c v1 v2),.agg (hvals h)] w fun r w'=>StepO w w' lo v1 v2 (({ c with fin:=c.fin+1 },{ h with grow:=c.fin,pos:=17 },true)) r:=by
  have b1:=fun j (hj:v1.ownBlock=some j)=>(h1.lt j hj).2
  have b2:=fun j (hj:v2.ownBlock=some j)=>(h2.lt j hj).2
  obtain ⟨a1,q1,rfl,_⟩:=h1.seg
  obtain ⟨a2,q2,rfl,_⟩:=h2.seg
  have O1:=Lib.hid h1
  have O2:=Lib.hid h2
  clear h1 h2
  have o1:=O1.out
  have o2:=O2.out
  go_enter Tryz.func156,Tryz.ntmps156
  go_wp2_with fail
  go_region_held3 (fun w'=>hp w' w.heap.size=some (.cells (cvals { c with fin:=c.fin+1 } (.slice a1 c.cells.length q1) (.slice a2 c.words.length q2)) 34)∧hp w' (w.heap.size+1)=some (.cells (hvals { h with grow:=c.fin }) 70))
    (first|(simp [*,go_sem]))
    (first|((go_at_call 133;refine bHit w (by exact zB) fun bb=>?_;refine (moved_any _ _ _).mono ?_;rintro _ w1 ⟨rfl,hbw1⟩;have hCw1:Below w.heap.size w w1:=bT bb hbw1;have hsw1:=hbw1.size;(try simp at hsw1);have zz:=q4 hbw1 (b:=w.heap.size);(try simp [go_sem] at zz);(try clear z_wppp x_wppp f_wppp l_wppp);(try clear z_wpp x_wpp f_wpp l_wpp);(try clear z_wp x_wp f_wp l_wp);(try clear z_w x_w f_w l_w);obtain ⟨z_wppp,z_wpp,z_wp,z_w⟩:=zz;obtain ⟨x_wppp,f_wppp,l_wppp⟩:=bO z_wppp;obtain ⟨x_wpp,f_wpp,l_wpp⟩:=bO z_wpp;obtain ⟨x_wp,f_wp,l_wp⟩:=bO z_wp;obtain ⟨x_w,f_w,l_w⟩:=bO z_w;have hKw1:Below w.heap.size w w1:=hCw1;clear hbw1 bb);have p1:=own_below o1 hKw1;have p2:=own_below o2 hKw1))
  go_wp2
  refine bodyPost_ret (res_cct Tryz.results156 rfl (ldChan { c with fin:=c.fin+1 } (.slice a1 c.cells.length q1) (.slice a2 c.words.length q2) (by simp [go_sem, *] <;> rfl)) rfl (ldHand { h with grow:=c.fin,pos:=17 } (by simp [go_sem, *] <;> rfl))) rfl ⟨⟨_,_,rfl,?_,?_,fresh_refl _ _,fresh_refl _ _⟩,onlB (by exact zB)⟩
  · exact zO p1 o1
  · exact zO p2 o2
set_option maxRecDepth 100000 in
set_option maxHeartbeats 2000000 in
theorem growCall_no (c:Ch) (h:Ha) (v1 v2:Value) (lo:Nat) (w:World) (h1:OCells w lo v1 c.cells) (h2:OInts w lo v2 c.words) (hs:(h.seen != 3)=true) :
    Calls Tryz.prog 157 #[.agg (cvals c v1 v2),.agg (hvals h)] w fun r w'=>StepO w w' lo v1 v2 (nothing) r:=by
  have T:=Lib.hid fun W=>refused_any W lo v1 v2
  generalize nothing=x at *
  have b1:=fun j (hj:v1.ownBlock=some j)=>(h1.lt j hj).2
  have b2:=fun j (hj:v2.ownBlock=some j)=>(h2.lt j hj).2
  have m1:∀ j,w.heap.size≤j→some j≠v1.ownBlock:=fun j hj e=>by have:=b1 _ e.symm;omega
  have m2:∀ j,w.heap.size≤j→some j≠v2.ownBlock:=fun j hj e=>by have:=b2 _ e.symm;omega
  have m10:=m1 (w.heap.size) (by omega)
  have m20:=m2 (w.heap.size) (by omega)
  have m11:=m1 (w.heap.size+1) (by omega)
  have m21:=m2 (w.heap.size+1) (by omega)
  have m12:=m1 (w.heap.size+1+1) (by omega)
  have m22:=m2 (w.heap.size+1+1) (by omega)
  have m13:=m1 (w.heap.size+1+1+1) (by omega)
  have m23:=m2 (w.heap.size+1+1+1) (by omega)
  have o1:=h1
  have o2:=h2
  obtain ⟨a1,q1,e1,_⟩:=h1.seg
  obtain ⟨a2,q2,e2,_⟩:=h2.seg
  subst e1 e2
  clear h1 h2
  go_enter Tryz.func157,Tryz.ntmps157
  go_wp2_with fail
  refine (T.out _).mono ?_
  rintro _ w3 ⟨⟨y1,y2,rfl,oY1,oY2,fY1,fY2⟩,hbw3⟩
  have hO3:Onl (Value.slice a1 c.cells.length q1).ownBlock (Value.slice a2 c.words.length q2).ownBlock w w3:=onlT (onlB (by exact zB)) (onlB hbw3)
  have hsw3:=hbw3.size;(try simp at hsw3);have zz:=q4 hbw3 (b:=w.heap.size);(try simp [go_sem] at zz);(try clear z_wppp x_wppp f_wppp l_wppp);(try clear z_wpp x_wpp f_wpp l_wpp);(try clear z_wp x_wp f_wp l_wp);(try clear z_w x_w f_w l_w);obtain ⟨z_wppp,z_wpp,z_wp,z_w⟩:=zz;obtain ⟨x_wppp,f_wppp,l_wppp⟩:=bO z_wppp;obtain ⟨x_wpp,f_wpp,l_wpp⟩:=bO z_wpp;obtain ⟨x_wp,f_wp,l_wp⟩:=bO z_wp;obtain ⟨x_w,f_w,l_w⟩:=bO z_w;clear hbw3
  have hoff1:∀ j,w.heap.size≤j→j<w.heap.size+1+1+1+1→y1.ownBlock≠some j:=fun j h1 h2=>fY1.off b1 h1 (by (try simp) <;> omega);have hoff2:∀ j,w.heap.size≤j→j<w.heap.size+1+1+1+1→y2.ownBlock≠some j:=fun j h1 h2=>fY2.off b2 h1 (by (try simp) <;> omega);have fr1:Fresh w _ y1:=fun j hj=>(fY1 j hj).imp id (fun h=>Nat.le_trans (by (try simp) <;> omega) h);have fr2:Fresh w _ y2:=fun j hj=>(fY2 j hj).imp id (fun h=>Nat.le_trans (by (try simp) <;> omega) h);obtain ⟨ya,yp,rfl,_⟩:=oY1.seg;obtain ⟨yb,yq,rfl,_⟩:=oY2.seg
  go_wp2
  refine bodyPost_ret (res_cct Tryz.results157 rfl (ldChan x.1 (.slice ya x.1.cells.length yp) (.slice yb x.1.words.length yq) (by simp [go_sem, *])) rfl (ldHand x.2.1 (by simp [go_sem, *]))) rfl ⟨⟨_,_,rfl,?_,?_,fr1,fr2⟩,by (repeat (first|with_reducible assumption|with_reducible refine oA ?_|with_reducible refine oD ?_|((with_reducible refine oX ?_ ?_);rotate_left;(focus ((try dsimp only);(try simp);(try omega))))|((with_reducible refine oS ?_ ?_);rotate_left;(focus ((try dsimp only);(try simp);(try omega))))))⟩
  · exact zP oY1 oY1 hoff1
  · exact zP oY2 oY2 hoff2
def tn8 (c:Ch) (h:Ha) (f st wt:Int) (y z:Ha):St:=if turnCB c h.grow f st wt then (turnC c h.grow f st wt,y,true) else (c,z,true)
set_option maxRecDepth 100000 in
set_option maxHeartbeats 2000000 in
theorem growCall_yes (c:Ch) (h:Ha) (v1 v2:Value) (lo:Nat) (w:World) (h1:OCells w lo v1 c.cells) (h2:OInts w lo v2 c.words) (hc0:0≤h.grow) (hc1:h.grow<c.cells.length) (hs:(h.seen != 3)=false) (ht:turnCB c h.grow 3 6 (cellAt c h.grow).t=true) :
    Calls Tryz.prog 157 #[.agg (cvals c v1 v2),.agg (hvals h)] w fun r w'=>StepO w w' lo v1 v2 ((turnC c h.grow 3 6 (cellAt c h.grow).t,{ h with pos:=20 },true)) r:=by
  obtain ⟨i,hci⟩:∃ i:Nat,h.grow=(i:Int):=⟨h.grow.toNat,by omega⟩
  have hi:i<c.cells.length:=by omega
  have hi0:(0:Int)≤(i:Int):=by omega
  have hi1:(i:Int)<(c.cells.length:Int):=by omega
  have hne:=h1.ne h2
  obtain ⟨a2,q2,rfl,_⟩:=h2.seg
  obtain ⟨g,q1,rfl,hlo1,hlt,hcell,hfr⟩:=h1.open1 hi
  have O1:=Lib.hid h1
  have O2:=Lib.hid h2
  have lg0:g<w.heap.size+1:=by omega
  have lg1:g<w.heap.size+1+1:=by omega
  have lg2:g<w.heap.size+1+1+1:=by omega
  have ng0:g≠w.heap.size:=by omega
  have ng1:g≠w.heap.size+1:=by omega
  have ng2:g≠w.heap.size+1+1:=by omega
  have ng3:g≠w.heap.size+1+1+1:=by omega
  have mg0:w.heap.size≠g:=by omega
  have mg1:w.heap.size+1≠g:=by omega
  have mg2:w.heap.size+1+1≠g:=by omega
  have mg3:w.heap.size+1+1+1≠g:=by omega
  have hx:Hid (cellAt c h.grow=c.cells.getD i ⟨0,0,0⟩):=by simp [cellAt,Hid,hci]
  have c0:=hcell 0 (by omega)
  have c1:=hcell 1 (by omega)
  have c2:=hcell 2 (by omega)
  simp only [C3.val,Nat.add_zero] at c0 c1 c2
  have ex:=hx.out
  rw [ex] at ht ⊢
  have T0:=fun W a b=>turnedIn_any c i 3 6 (c.cells.getD i ⟨0,0,0⟩).t (.slice (some ⟨g,0,none⟩) c.cells.length q1) (.slice a2 c.words.length q2) lo W a b hi
  rw [hci] at ht
  rw [show turnC c h.grow 3 6 (c.cells.getD i ⟨0,0,0⟩).t=turnC c i 3 6 (c.cells.getD i ⟨0,0,0⟩).t by rw [hci]]
  rw [ht] at T0
  clear hx ex hcell h1 h2 ht
  generalize c.cells.getD i ⟨0,0,0⟩=x0 at *
  obtain ⟨ss,e,t⟩:=x0
  simp only at T0 c0 c1 c2 ⊢
  have TN:=Lib.hid T0
  clear T0
  have o1:=O1.out
  have o2:=O2.out
  have HCI:=Lib.hid hci
  clear hci hc0 hc1
  go_enter Tryz.func157,Tryz.ntmps157
  have sg0:some w.heap.size≠some g:=by simp;omega
  have sg1:some (w.heap.size+1)≠some g:=by simp;omega
  have sg2:some (w.heap.size+1+1)≠some g:=by simp;omega
  have sg3:some (w.heap.size+1+1+1)≠some g:=by simp;omega
  go_upto_region 3 with fail
  refine wp_region_inv [[],[],[1],[],[3],[],[5],[3,4,5,6],[3,4,5,6,7],[3,4,5,6,7,8],qB [8,9],qB [8,9,10]] [14,15,16,17,18,19,20,21,22,23,24,25] (fun l s wx=>(l 10=false→Below w.heap.size w wx)∧(hp wx w.heap.size=some (.cells (cvals c (.slice (some ⟨g,0,none⟩) c.cells.length q1) (.slice a2 c.words.length q2)) 34))∧(hp wx (w.heap.size+1)=some (.cells (hvals h) 70))∧(hp wx (w.heap.size+1+1)=some (.cells (cvals Ch.zero (.slice none 0 0) (.slice none 0 0)) 34))∧(hp wx (w.heap.size+1+1+1)=some (.cells (hvals Ha.zero) 70))∧(l 0=true→s 14=.agg (cvals c (.slice (some ⟨g,0,none⟩) c.cells.length q1) (.slice a2 c.words.length q2)))∧(l 1=true→s 15=.pointer (some ⟨w.heap.size+1,8,none⟩))∧(l 2=true→s 16=.int .i64 i)∧(l 3=true→s 17=.pointer (some ⟨w.heap.size,4,none⟩))∧(l 4=true→s 18=.slice (some ⟨g,0,none⟩) c.cells.length q1)∧(l 5=true→s 19=.pointer (some ⟨w.heap.size+1,8,none⟩))∧(l 6=true→s 20=.int .i64 i)∧(l 7=true→s 21=.pointer (some ⟨g,i*3,none⟩))∧(l 8=true→s 22=.pointer (some ⟨g,i*3+2,none⟩))∧(l 9=true→s 23=.int .i64 t)∧(l 10=true→s 24=.bool true∧Gr g w wx∧OCells wx lo (.slice (some ⟨g,0,none⟩) c.cells.length q1) (turnC c i 3 6 t).cells∧OInts wx lo (.slice a2 c.words.length q2) c.words)∧(l 11=true→s 25=.bool false)) (by kernel_rfl) (by kernel_rfl) (by kernel_rfl) (fun s=>by (simp only [fill,fillA,List.setIfInBounds_toArray,List.set_cons_zero,List.set_cons_succ];rfl)) (fun s=>⟨fun _=>by exact zB,by simp [go_sem],by simp [go_sem],by simp [go_sem],by simp [go_sem],nB,nB,nB,nB,nB,nB,nB,nB,nB,nB,nB,nB⟩) ?_ ?_
  refine ⟨?_,?_,?_,?_,?_,?_,?_,?_,?_,?_,?_,?_,trivial⟩;rotate_left 12
  · intro l s w5 hall hf
    obtain ⟨_,hG5,r1,r2⟩:=((jC (jD hf)).2.2.2.1 (hall 10 rfl))
    have z_w:=hf.2.1
    have z_wp:=hf.2.2.1
    have z_wpp:=hf.2.2.2.1
    have z_wppp:=hf.2.2.2.2.1
    have ec:=((jE hf) (hall 11 rfl))
    simp only [ec]
    clear hf hall ec
    obtain ⟨x_w,f_w,l_w⟩:=bO z_w
    obtain ⟨x_wp,f_wp,l_wp⟩:=bO z_wp
    obtain ⟨x_wpp,f_wpp,l_wpp⟩:=bO z_wpp
    obtain ⟨x_wppp,f_wppp,l_wppp⟩:=bO z_wppp
    go_wp2_with fail
    go_region_held3 (fun w'=>hp w' w.heap.size=some (.cells (cvals c (.slice (some ⟨g,0,none⟩) c.cells.length q1) (.slice a2 c.words.length q2)) 34)∧hp w' (w.heap.size+1)=some (.cells (hvals h) 70))
      (first|(simp [*,go_sem]))
      (first|(go_at_call 133;refine (moved_any _ _ _).mono ?_;rintro _ w6 ⟨rfl,hbw6⟩;have hGw6:Gr g w w6:=gT (by (repeat (first|with_reducible assumption|with_reducible exact gR _ _|with_reducible refine gA ?_|with_reducible refine gD ?_|with_reducible refine gS ?_ (.inl rfl)|((with_reducible refine gBx ?_ (.inr ?_));rotate_left;(focus ((try dsimp only);(try simp);(try omega))))|((with_reducible refine gS ?_ (.inr ?_));rotate_left;(focus ((try dsimp only);(try simp);(try omega))))))) (gOfB hbw6);have hsw6:=hbw6.size;(try (simp at hsw6));have zz:=hQ hbw6 (b:=w.heap.size);(first|(simp [go_sem,z_w,l_w] at zz)|(simp [go_sem] at zz));(try clear x_w f_w);(try clear z_w);have z_w:=zz;clear zz;(try clear l_w);obtain ⟨x_w,f_w,l_w⟩:=bO z_w;have zz:=hQ hbw6 (b:=w.heap.size+1);(first|(simp [go_sem,z_wp,l_wp] at zz)|(simp [go_sem] at zz));(try clear x_wp f_wp);(try clear z_wp);have z_wp:=zz;clear zz;(try clear l_wp);obtain ⟨x_wp,f_wp,l_wp⟩:=bO z_wp;have zz:=hQ hbw6 (b:=w.heap.size+1+1);(first|(simp [go_sem,z_wpp,l_wpp] at zz)|(simp [go_sem] at zz));(try clear x_wpp f_wpp);(try clear z_wpp);have z_wpp:=zz;clear zz;(try clear l_wpp);obtain ⟨x_wpp,f_wpp,l_wpp⟩:=bO z_wpp;have zz:=hQ hbw6 (b:=w.heap.size+1+1+1);(first|(simp [go_sem,z_wppp,l_wppp] at zz)|(simp [go_sem] at zz));(try clear x_wppp f_wppp);(try clear z_wppp);have z_wppp:=zz;clear zz;(try clear l_wppp);obtain ⟨x_wppp,f_wppp,l_wppp⟩:=bO z_wppp;have p1:OCells w6 lo (.slice (some ⟨g,0,none⟩) c.cells.length q1) (turnC c i 3 6 t).cells:=own_below (by exact zO r1 o1) hbw6;have p2:OInts w6 lo (.slice a2 c.words.length q2) c.words:=own_below (by exact zO r2 o2) hbw6))
    go_wp2
    refine bodyPost_ret (res_cct Tryz.results157 rfl (ldChan (turnC c i 3 6 t) (.slice (some ⟨g,0,none⟩) c.cells.length q1) (.slice a2 c.words.length q2) (by simp [go_sem, *] <;> rfl)) rfl (ldHand { h with pos:=20 } (by simp [go_sem, *] <;> rfl))) rfl ⟨⟨_,_,rfl,?_,?_,fresh_refl _ _,fresh_refl _ _⟩,onl1 (show w.grownBy _ (some g) from (by (repeat (first|with_reducible assumption|with_reducible exact gR _ _|with_reducible refine gA ?_|with_reducible refine gD ?_|with_reducible refine gS ?_ (.inl rfl)|((with_reducible refine gBx ?_ (.inr ?_));rotate_left;(focus ((try dsimp only);(try simp);(try omega))))|((with_reducible refine gS ?_ (.inr ?_));rotate_left;(focus ((try dsimp only);(try simp);(try omega))))))))⟩
    · show OCells _ lo (.slice (some ⟨g,0,none⟩) c.cells.length q1) (turnC c i 3 6 t).cells
      exact zO p1 o1
    · show OInts _ lo (.slice a2 c.words.length q2) c.words
      exact zO p2 o2
  · intro l s wx hl hd hn hf0 K hK
    have hf:=Lib.hid hf0
    clear hf0
    have hB:=hf.out.1 (hn 10 rfl)
    have zc:=hf.out.2.1
    go_simp
    refine hK.out (upd s 14 (.agg (cvals c (.slice (some ⟨g,0,none⟩) c.cells.length q1) (.slice a2 c.words.length q2)))) _ _ (by simp [upd_at] <;> rfl) (kC (kA (kX (fun _=>rfl) id)) hf.out)
  · intro l s wx hl hd hn hf0 K hK
    have hf:=Lib.hid hf0
    clear hf0
    have hB:=hf.out.1 (hn 10 rfl)
    go_simp
    refine hK.out (upd s 15 (.pointer (some ⟨w.heap.size+1,8,none⟩))) _ _ (by simp [upd_at] <;> rfl) (kC (kB (kX (fun _=>rfl) id)) hf.out)
  · intro l s wx hl hd hn hf0 K hK
    have hf:=Lib.hid hf0
    clear hf0
    have e1:=((jC hf.out).2.2.1 (hd 1 rfl))
    have hB:=hf.out.1 (hn 10 rfl)
    have zh:=hf.out.2.2.1
    have q:wx.cell? ⟨w.heap.size+1,8,none⟩=some (.int .i64 i):=by rw [← HCI.out];exact (bO zh).1 8
    go_simp
    refine hK.out (upd s 16 (.int .i64 i)) _ _ (by simp [upd_at,e1] <;> rfl) (kC (kB (kA (kX (fun _=>rfl) id))) hf.out)
  · intro l s wx hl hd hn hf0 K hK
    have hf:=Lib.hid hf0
    clear hf0
    have hB:=hf.out.1 (hn 10 rfl)
    go_simp
    refine hK.out (upd s 17 (.pointer (some ⟨w.heap.size,4,none⟩))) _ _ (by simp [upd_at] <;> rfl) (kD (kX (fun _=>rfl) id) hf.out)
  · intro l s wx hl hd hn hf0 K hK
    have hf:=Lib.hid hf0
    clear hf0
    have e3:=((jD hf.out).1 (hd 3 rfl))
    have hB:=hf.out.1 (hn 10 rfl)
    have zc:=hf.out.2.1
    have q:=(bO zc).1 4
    go_simp
    refine hK.out (upd s 18 (.slice (some ⟨g,0,none⟩) c.cells.length q1)) _ _ (by simp [upd_at,e3] <;> rfl) (kD (kA (kX (fun _=>rfl) id)) hf.out)
  · intro l s wx hl hd hn hf0 K hK
    have hf:=Lib.hid hf0
    clear hf0
    have hB:=hf.out.1 (hn 10 rfl)
    go_simp
    refine hK.out (upd s 19 (.pointer (some ⟨w.heap.size+1,8,none⟩))) _ _ (by simp [upd_at] <;> rfl) (kD (kB (kX (fun _=>rfl) id)) hf.out)
  · intro l s wx hl hd hn hf0 K hK
    have hf:=Lib.hid hf0
    clear hf0
    have e5:=((jD hf.out).2.2.1 (hd 5 rfl))
    have hB:=hf.out.1 (hn 10 rfl)
    have zh:=hf.out.2.2.1
    have q:wx.cell? ⟨w.heap.size+1,8,none⟩=some (.int .i64 i):=by rw [← HCI.out];exact (bO zh).1 8
    go_simp
    refine hK.out (upd s 20 (.int .i64 i)) _ _ (by simp [upd_at,e5] <;> rfl) (kD (kB (kA (kX (fun _=>rfl) id))) hf.out)
  · intro l s wx hl hd hn hf0 K hK
    have hf:=Lib.hid hf0
    clear hf0
    have e4:=((jD hf.out).2.1 (hd 4 rfl))
    have e6:=((jD hf.out).2.2.2.1 (hd 6 rfl))
    have hB:=hf.out.1 (hn 10 rfl)
    go_simp
    refine hK.out (upd s 21 (.pointer (some ⟨g,i*3,none⟩))) _ _ (by simp [upd_at,e4,e6] <;> rfl) (kD (kC (kX (fun _=>rfl) id)) hf.out)
  · intro l s wx hl hd hn hf0 K hK
    have hf:=Lib.hid hf0
    clear hf0
    have e7:=((jC (jD hf.out)).1 (hd 7 rfl))
    have hB:=hf.out.1 (hn 10 rfl)
    go_simp
    refine hK.out (upd s 22 (.pointer (some ⟨g,i*3+2,none⟩))) _ _ (by simp [upd_at,e7] <;> rfl) (kD (kC (kA (kX (fun _=>rfl) id))) hf.out)
  · intro l s wx hl hd hn hf0 K hK
    have hf:=Lib.hid hf0
    clear hf0
    have e8:=((jC (jD hf.out)).2.1 (hd 8 rfl))
    have hB:=hf.out.1 (hn 10 rfl)
    have y0:=(hB.cell (p:=⟨g,i*3+2,none⟩) hlt).trans c2
    go_simp
    refine hK.out (upd s 23 (.int .i64 t)) _ _ (by simp [upd_at,e8] <;> rfl) (kD (kC (kB (kX (fun _=>rfl) id))) hf.out)
  · intro l s wx hl hd hn hf0 K hK
    have hf:=Lib.hid hf0
    clear hf0
    have e0:=((jC hf.out).2.1 (hd 0 rfl))
    have e2:=((jC hf.out).2.2.2.1 (hd 2 rfl))
    have e9:=((jC (jD hf.out)).2.2.1 (hd 9 rfl))
    have hB:=hf.out.1 hl
    go_simp
    go_at_call 147
    refine (TN.out _ (own_below o1 hB) (own_below o2 hB)).mono ?_
    rintro _ wy ⟨rfl,p1,p2,hgw⟩
    refine hK.out (upd s 24 (.bool true)) _ _ (by simp [upd_at,e0,e2,e9] <;> rfl) (kX (fun h9=>nU h9 (show upd l 10 true 10=true from rfl)) (kX ((grHp hgw (bO hf.out.2.1).2.2 sg0).trans hf.out.2.1) (kX ((grHp hgw (bO hf.out.2.2.1).2.2 sg1).trans hf.out.2.2.1) (kX ((grHp hgw (bO hf.out.2.2.2.1).2.2 sg2).trans hf.out.2.2.2.1) (kX ((grHp hgw (bO hf.out.2.2.2.2.1).2.2 sg3).trans hf.out.2.2.2.2.1) (kD (kB (kX (fun _=>⟨rfl,gT (gOfB hB) hgw,p1,p2⟩) (fun _=>nU (hn 11 rfl))))))))) hf.out)
  · intro l s wx hl hd hn hf0 K hK
    have hf:=Lib.hid hf0
    clear hf0
    have e10:=((jC (jD hf.out)).2.2.2.1 (hd 10 rfl)).1
    go_simp
    refine hK.out (upd s 25 (.bool false)) _ _ (by simp [upd_at,e10] <;> rfl) (kE (fun _=>fun _=>rfl) hf.out)
set_option maxRecDepth 100000 in
set_option maxHeartbeats 2000000 in
theorem growCall_no0 (c:Ch) (h:Ha) (v1 v2:Value) (lo:Nat) (w:World) (h1:OCells w lo v1 c.cells) (h2:OInts w lo v2 c.words) (hc0:0≤h.grow) (hc1:h.grow<c.cells.length) (hs:(h.seen != 3)=false) (ht:turnCB c h.grow 3 6 (cellAt c h.grow).t=false) :
    Calls Tryz.prog 157 #[.agg (cvals c v1 v2),.agg (hvals h)] w fun r w'=>StepO w w' lo v1 v2 ((turnC c h.grow 3 6 (cellAt c h.grow).t,{ h with pos:=18 },true)) r:=by
  obtain ⟨i,hci⟩:∃ i:Nat,h.grow=(i:Int):=⟨h.grow.toNat,by omega⟩
  have hi:i<c.cells.length:=by omega
  have hi0:(0:Int)≤(i:Int):=by omega
  have hi1:(i:Int)<(c.cells.length:Int):=by omega
  have hne:=h1.ne h2
  obtain ⟨a2,q2,rfl,_⟩:=h2.seg
  obtain ⟨g,q1,rfl,hlo1,hlt,hcell,hfr⟩:=h1.open1 hi
  have O1:=Lib.hid h1
  have O2:=Lib.hid h2
  have lg0:g<w.heap.size+1:=by omega
  have lg1:g<w.heap.size+1+1:=by omega
  have lg2:g<w.heap.size+1+1+1:=by omega
  have ng0:g≠w.heap.size:=by omega
  have ng1:g≠w.heap.size+1:=by omega
  have ng2:g≠w.heap.size+1+1:=by omega
  have ng3:g≠w.heap.size+1+1+1:=by omega
  have mg0:w.heap.size≠g:=by omega
  have mg1:w.heap.size+1≠g:=by omega
  have mg2:w.heap.size+1+1≠g:=by omega
  have mg3:w.heap.size+1+1+1≠g:=by omega
  have hx:Hid (cellAt c h.grow=c.cells.getD i ⟨0,0,0⟩):=by simp [cellAt,Hid,hci]
  have c0:=hcell 0 (by omega)
  have c1:=hcell 1 (by omega)
  have c2:=hcell 2 (by omega)
  simp only [C3.val,Nat.add_zero] at c0 c1 c2
  have ex:=hx.out
  rw [ex] at ht ⊢
  have T0:=fun W a b=>turnedIn_any c i 3 6 (c.cells.getD i ⟨0,0,0⟩).t (.slice (some ⟨g,0,none⟩) c.cells.length q1) (.slice a2 c.words.length q2) lo W a b hi
  rw [hci] at ht
  rw [show turnC c h.grow 3 6 (c.cells.getD i ⟨0,0,0⟩).t=turnC c i 3 6 (c.cells.getD i ⟨0,0,0⟩).t by rw [hci]]
  rw [ht] at T0
  clear hx ex hcell h1 h2 ht
  generalize c.cells.getD i ⟨0,0,0⟩=x0 at *
  obtain ⟨ss,e,t⟩:=x0
  simp only at T0 c0 c1 c2 ⊢
  have TN:=Lib.hid T0
  clear T0
  have o1:=O1.out
  have o2:=O2.out
  have HCI:=Lib.hid hci
  clear hci hc0 hc1
  go_enter Tryz.func157,Tryz.ntmps157
  have sg0:some w.heap.size≠some g:=by simp;omega
  have sg1:some (w.heap.size+1)≠some g:=by simp;omega
  have sg2:some (w.heap.size+1+1)≠some g:=by simp;omega
  have sg3:some (w.heap.size+1+1+1)≠some g:=by simp;omega
  go_upto_region 3 with fail
  refine wp_region_inv [[],[],[1],[],[3],[],[5],[3,4,5,6],[3,4,5,6,7],[3,4,5,6,7,8],qB [8,9],qB [8,9,10]] [14,15,16,17,18,19,20,21,22,23,24,25] (fun l s wx=>(l 10=false→Below w.heap.size w wx)∧(hp wx w.heap.size=some (.cells (cvals c (.slice (some ⟨g,0,none⟩) c.cells.length q1) (.slice a2 c.words.length q2)) 34))∧(hp wx (w.heap.size+1)=some (.cells (hvals h) 70))∧(hp wx (w.heap.size+1+1)=some (.cells (cvals Ch.zero (.slice none 0 0) (.slice none 0 0)) 34))∧(hp wx (w.heap.size+1+1+1)=some (.cells (hvals Ha.zero) 70))∧(l 0=true→s 14=.agg (cvals c (.slice (some ⟨g,0,none⟩) c.cells.length q1) (.slice a2 c.words.length q2)))∧(l 1=true→s 15=.pointer (some ⟨w.heap.size+1,8,none⟩))∧(l 2=true→s 16=.int .i64 i)∧(l 3=true→s 17=.pointer (some ⟨w.heap.size,4,none⟩))∧(l 4=true→s 18=.slice (some ⟨g,0,none⟩) c.cells.length q1)∧(l 5=true→s 19=.pointer (some ⟨w.heap.size+1,8,none⟩))∧(l 6=true→s 20=.int .i64 i)∧(l 7=true→s 21=.pointer (some ⟨g,i*3,none⟩))∧(l 8=true→s 22=.pointer (some ⟨g,i*3+2,none⟩))∧(l 9=true→s 23=.int .i64 t)∧(l 10=true→s 24=.bool false∧Gr g w wx∧OCells wx lo (.slice (some ⟨g,0,none⟩) c.cells.length q1) (turnC c i 3 6 t).cells∧OInts wx lo (.slice a2 c.words.length q2) c.words)∧(l 11=true→s 25=.bool true)) (by kernel_rfl) (by kernel_rfl) (by kernel_rfl) (fun s=>by (simp only [fill,fillA,List.setIfInBounds_toArray,List.set_cons_zero,List.set_cons_succ];rfl)) (fun s=>⟨fun _=>by exact zB,by simp [go_sem],by simp [go_sem],by simp [go_sem],by simp [go_sem],nB,nB,nB,nB,nB,nB,nB,nB,nB,nB,nB,nB⟩) ?_ ?_
  refine ⟨?_,?_,?_,?_,?_,?_,?_,?_,?_,?_,?_,?_,trivial⟩;rotate_left 12
  · intro l s w5 hall hf
    obtain ⟨_,hG5,r1,r2⟩:=((jC (jD hf)).2.2.2.1 (hall 10 rfl))
    have z_w:=hf.2.1
    have z_wp:=hf.2.2.1
    have z_wpp:=hf.2.2.2.1
    have z_wppp:=hf.2.2.2.2.1
    have ec:=((jE hf) (hall 11 rfl))
    simp only [ec]
    clear hf hall ec
    obtain ⟨x_w,f_w,l_w⟩:=bO z_w
    obtain ⟨x_wp,f_wp,l_wp⟩:=bO z_wp
    obtain ⟨x_wpp,f_wpp,l_wpp⟩:=bO z_wpp
    obtain ⟨x_wppp,f_wppp,l_wppp⟩:=bO z_wppp
    go_wp2_with fail
    go_region_held3 (fun w'=>hp w' w.heap.size=some (.cells (cvals c (.slice (some ⟨g,0,none⟩) c.cells.length q1) (.slice a2 c.words.length q2)) 34)∧hp w' (w.heap.size+1)=some (.cells (hvals h) 70))
      (first|(simp [*,go_sem]))
      (first|(go_at_call 133;refine (moved_any _ _ _).mono ?_;rintro _ w6 ⟨rfl,hbw6⟩;have hGw6:Gr g w w6:=gT (by (repeat (first|with_reducible assumption|with_reducible exact gR _ _|with_reducible refine gA ?_|with_reducible refine gD ?_|with_reducible refine gS ?_ (.inl rfl)|((with_reducible refine gBx ?_ (.inr ?_));rotate_left;(focus ((try dsimp only);(try simp);(try omega))))|((with_reducible refine gS ?_ (.inr ?_));rotate_left;(focus ((try dsimp only);(try simp);(try omega))))))) (gOfB hbw6);have hsw6:=hbw6.size;(try (simp at hsw6));have zz:=hQ hbw6 (b:=w.heap.size);(first|(simp [go_sem,z_w,l_w] at zz)|(simp [go_sem] at zz));(try clear x_w f_w);(try clear z_w);have z_w:=zz;clear zz;(try clear l_w);obtain ⟨x_w,f_w,l_w⟩:=bO z_w;have zz:=hQ hbw6 (b:=w.heap.size+1);(first|(simp [go_sem,z_wp,l_wp] at zz)|(simp [go_sem] at zz));(try clear x_wp f_wp);(try clear z_wp);have z_wp:=zz;clear zz;(try clear l_wp);obtain ⟨x_wp,f_wp,l_wp⟩:=bO z_wp;have zz:=hQ hbw6 (b:=w.heap.size+1+1);(first|(simp [go_sem,z_wpp,l_wpp] at zz)|(simp [go_sem] at zz));(try clear x_wpp f_wpp);(try clear z_wpp);have z_wpp:=zz;clear zz;(try clear l_wpp);obtain ⟨x_wpp,f_wpp,l_wpp⟩:=bO z_wpp;have zz:=hQ hbw6 (b:=w.heap.size+1+1+1);(first|(simp [go_sem,z_wppp,l_wppp] at zz)|(simp [go_sem] at zz));(try clear x_wppp f_wppp);(try clear z_wppp);have z_wppp:=zz;clear zz;(try clear l_wppp);obtain ⟨x_wppp,f_wppp,l_wppp⟩:=bO z_wppp;have p1:OCells w6 lo (.slice (some ⟨g,0,none⟩) c.cells.length q1) (turnC c i 3 6 t).cells:=own_below (by exact zO r1 o1) hbw6;have p2:OInts w6 lo (.slice a2 c.words.length q2) c.words:=own_below (by exact zO r2 o2) hbw6))
    go_wp2
    refine bodyPost_ret (res_cct Tryz.results157 rfl (ldChan (turnC c i 3 6 t) (.slice (some ⟨g,0,none⟩) c.cells.length q1) (.slice a2 c.words.length q2) (by simp [go_sem, *] <;> rfl)) rfl (ldHand { h with pos:=18 } (by simp [go_sem, *] <;> rfl))) rfl ⟨⟨_,_,rfl,?_,?_,fresh_refl _ _,fresh_refl _ _⟩,onl1 (show w.grownBy _ (some g) from (by (repeat (first|with_reducible assumption|with_reducible exact gR _ _|with_reducible refine gA ?_|with_reducible refine gD ?_|with_reducible refine gS ?_ (.inl rfl)|((with_reducible refine gBx ?_ (.inr ?_));rotate_left;(focus ((try dsimp only);(try simp);(try omega))))|((with_reducible refine gS ?_ (.inr ?_));rotate_left;(focus ((try dsimp only);(try simp);(try omega))))))))⟩
    · show OCells _ lo (.slice (some ⟨g,0,none⟩) c.cells.length q1) (turnC c i 3 6 t).cells
      exact zO p1 o1
    · show OInts _ lo (.slice a2 c.words.length q2) c.words
      exact zO p2 o2
  · intro l s wx hl hd hn hf0 K hK
    have hf:=Lib.hid hf0
    clear hf0
    have hB:=hf.out.1 (hn 10 rfl)
    have zc:=hf.out.2.1
    go_simp
    refine hK.out (upd s 14 (.agg (cvals c (.slice (some ⟨g,0,none⟩) c.cells.length q1) (.slice a2 c.words.length q2)))) _ _ (by simp [upd_at] <;> rfl) (kC (kA (kX (fun _=>rfl) id)) hf.out)
  · intro l s wx hl hd hn hf0 K hK
    have hf:=Lib.hid hf0
    clear hf0
    have hB:=hf.out.1 (hn 10 rfl)
    go_simp
    refine hK.out (upd s 15 (.pointer (some ⟨w.heap.size+1,8,none⟩))) _ _ (by simp [upd_at] <;> rfl) (kC (kB (kX (fun _=>rfl) id)) hf.out)
  · intro l s wx hl hd hn hf0 K hK
    have hf:=Lib.hid hf0
    clear hf0
    have e1:=((jC hf.out).2.2.1 (hd 1 rfl))
    have hB:=hf.out.1 (hn 10 rfl)
    have zh:=hf.out.2.2.1
    have q:wx.cell? ⟨w.heap.size+1,8,none⟩=some (.int .i64 i):=by rw [← HCI.out];exact (bO zh).1 8
    go_simp
    refine hK.out (upd s 16 (.int .i64 i)) _ _ (by simp [upd_at,e1] <;> rfl) (kC (kB (kA (kX (fun _=>rfl) id))) hf.out)
  · intro l s wx hl hd hn hf0 K hK
    have hf:=Lib.hid hf0
    clear hf0
    have hB:=hf.out.1 (hn 10 rfl)
    go_simp
    refine hK.out (upd s 17 (.pointer (some ⟨w.heap.size,4,none⟩))) _ _ (by simp [upd_at] <;> rfl) (kD (kX (fun _=>rfl) id) hf.out)
  · intro l s wx hl hd hn hf0 K hK
    have hf:=Lib.hid hf0
    clear hf0
    have e3:=((jD hf.out).1 (hd 3 rfl))
    have hB:=hf.out.1 (hn 10 rfl)
    have zc:=hf.out.2.1
    have q:=(bO zc).1 4
    go_simp
    refine hK.out (upd s 18 (.slice (some ⟨g,0,none⟩) c.cells.length q1)) _ _ (by simp [upd_at,e3] <;> rfl) (kD (kA (kX (fun _=>rfl) id)) hf.out)
  · intro l s wx hl hd hn hf0 K hK
    have hf:=Lib.hid hf0
    clear hf0
    have hB:=hf.out.1 (hn 10 rfl)
    go_simp
    refine hK.out (upd s 19 (.pointer (some ⟨w.heap.size+1,8,none⟩))) _ _ (by simp [upd_at] <;> rfl) (kD (kB (kX (fun _=>rfl) id)) hf.out)
  · intro l s wx hl hd hn hf0 K hK
    have hf:=Lib.hid hf0
    clear hf0
    have e5:=((jD hf.out).2.2.1 (hd 5 rfl))
    have hB:=hf.out.1 (hn 10 rfl)
    have zh:=hf.out.2.2.1
    have q:wx.cell? ⟨w.heap.size+1,8,none⟩=some (.int .i64 i):=by rw [← HCI.out];exact (bO zh).1 8
    go_simp
    refine hK.out (upd s 20 (.int .i64 i)) _ _ (by simp [upd_at,e5] <;> rfl) (kD (kB (kA (kX (fun _=>rfl) id))) hf.out)
  · intro l s wx hl hd hn hf0 K hK
    have hf:=Lib.hid hf0
    clear hf0
    have e4:=((jD hf.out).2.1 (hd 4 rfl))
    have e6:=((jD hf.out).2.2.2.1 (hd 6 rfl))
    have hB:=hf.out.1 (hn 10 rfl)
    go_simp
    refine hK.out (upd s 21 (.pointer (some ⟨g,i*3,none⟩))) _ _ (by simp [upd_at,e4,e6] <;> rfl) (kD (kC (kX (fun _=>rfl) id)) hf.out)
  · intro l s wx hl hd hn hf0 K hK
    have hf:=Lib.hid hf0
    clear hf0
    have e7:=((jC (jD hf.out)).1 (hd 7 rfl))
    have hB:=hf.out.1 (hn 10 rfl)
    go_simp
    refine hK.out (upd s 22 (.pointer (some ⟨g,i*3+2,none⟩))) _ _ (by simp [upd_at,e7] <;> rfl) (kD (kC (kA (kX (fun _=>rfl) id))) hf.out)
  · intro l s wx hl hd hn hf0 K hK
    have hf:=Lib.hid hf0
    clear hf0
    have e8:=((jC (jD hf.out)).2.1 (hd 8 rfl))
    have hB:=hf.out.1 (hn 10 rfl)
    have y0:=(hB.cell (p:=⟨g,i*3+2,none⟩) hlt).trans c2
    go_simp
    refine hK.out (upd s 23 (.int .i64 t)) _ _ (by simp [upd_at,e8] <;> rfl) (kD (kC (kB (kX (fun _=>rfl) id))) hf.out)
  · intro l s wx hl hd hn hf0 K hK
    have hf:=Lib.hid hf0
    clear hf0
    have e0:=((jC hf.out).2.1 (hd 0 rfl))
    have e2:=((jC hf.out).2.2.2.1 (hd 2 rfl))
    have e9:=((jC (jD hf.out)).2.2.1 (hd 9 rfl))
    have hB:=hf.out.1 hl
    go_simp
    go_at_call 147
    refine (TN.out _ (own_below o1 hB) (own_below o2 hB)).mono ?_
    rintro _ wy ⟨rfl,p1,p2,hgw⟩
    refine hK.out (upd s 24 (.bool false)) _ _ (by simp [upd_at,e0,e2,e9] <;> rfl) (kX (fun h9=>nU h9 (show upd l 10 true 10=true from rfl)) (kX ((grHp hgw (bO hf.out.2.1).2.2 sg0).trans hf.out.2.1) (kX ((grHp hgw (bO hf.out.2.2.1).2.2 sg1).trans hf.out.2.2.1) (kX ((grHp hgw (bO hf.out.2.2.2.1).2.2 sg2).trans hf.out.2.2.2.1) (kX ((grHp hgw (bO hf.out.2.2.2.2.1).2.2 sg3).trans hf.out.2.2.2.2.1) (kD (kB (kX (fun _=>⟨rfl,gT (gOfB hB) hgw,p1,p2⟩) (fun _=>nU (hn 11 rfl))))))))) hf.out)
  · intro l s wx hl hd hn hf0 K hK
    have hf:=Lib.hid hf0
    clear hf0
    have e10:=((jC (jD hf.out)).2.2.2.1 (hd 10 rfl)).1
    go_simp
    refine hK.out (upd s 25 (.bool true)) _ _ (by simp [upd_at,e10] <;> rfl) (kE (fun _=>fun _=>rfl) hf.out)
def callG (c:Ch) (h:Ha):St:=if h.seen=3 then tn8 c h 3 6 (cellAt c h.grow).t { h with pos:=20 } { h with pos:=18 } else nothing
theorem growCall_any (c:Ch) (h:Ha) (v1 v2:Value) (lo:Nat) (w:World) (h1:OCells w lo v1 c.cells) (h2:OInts w lo v2 c.words) (hc0:0≤h.grow) (hc1:h.grow<c.cells.length) :
    Calls Tryz.prog 157 #[.agg (cvals c v1 v2),.agg (hvals h)] w fun r w'=>StepO w w' lo v1 v2 (callG c h) r:=by
  by_cases hs:h.seen=3
  · have e:(h.seen != 3)=false:=by simp [hs]
    cases ht:turnCB c h.grow 3 6 (cellAt c h.grow).t with
    | true =>
      rw [show callG c h=(turnC c h.grow 3 6 (cellAt c h.grow).t,{ h with pos:=20 },true) by simp [callG,tn8,hs,ht]]
      exact growCall_yes c h v1 v2 lo w h1 h2 hc0 hc1 e ht
    | false =>
      have:=growCall_no0 c h v1 v2 lo w h1 h2 hc0 hc1 e ht
      rw [turnC_same7 ht] at this
      rw [show callG c h=(c,{ h with pos:=18 },true) by simp [callG,tn8,hs,ht]]
      exact this
  · rw [show callG c h=nothing by simp [callG,hs]]
    exact growCall_no c h v1 v2 lo w h1 h2 (by simpa using hs)
end Go.Proofs.YtmnpgkcdfielbaaGreat
set_option linter.unusedSimpArgs false
set_option linter.unusedVariables false
namespace Go.Proofs.YtmnpgkcdfielbaaGreat
open Go.RowKit
set_option linter.unusedSimpArgs false
attribute [local simp] bx_size
attribute [local go_sem ↓] zeroHand zeroChan toLHand toLChan toVHand toVChan storeHand storeChan storeHandC storeChanC
set_option maxRecDepth 100000 in
set_option maxHeartbeats 2000000 in
theorem growTouch_16a (c:Ch) (h:Ha) (v1 v2:Value) (lo:Nat) (w:World) (h1:OCells w lo v1 c.cells) (h2:OInts w lo v2 c.words) (hg:(c.cap == 0)=true) (hcall:callOk h.code h.elem=true) (hnx:0≤h.nxt∧h.nxt≤2) (hq:(h.pos == 16)=true) (hk:(h.code != 2)=false) :
    Calls Tryz.prog 155 #[.agg (cvals c v1 v2),.agg (hvals h)] w fun r w'=>StepO w w' lo v1 v2 ((c,grown8 h,true)) r:=by
  obtain ⟨y0,hy0⟩:∃ y0,grown8 h=y0:=⟨_,rfl⟩
  have GR:=Lib.hid fun W=>grown_any h W hcall hnx
  rw [hy0] at GR
  rw [hy0]
  clear hy0 hcall hnx
  have b1:=fun j (hj:v1.ownBlock=some j)=>(h1.lt j hj).2
  have b2:=fun j (hj:v2.ownBlock=some j)=>(h2.lt j hj).2
  obtain ⟨a1,q1,rfl,_⟩:=h1.seg
  obtain ⟨a2,q2,rfl,_⟩:=h2.seg
  have O1:=Lib.hid h1
  have O2:=Lib.hid h2
  clear h1 h2
  have o1:=O1.out
  have o2:=O2.out
  go_enter Tryz.func155,Tryz.ntmps155
  go_wp2
  go_step3
  go_wp2
  go_step3
  go_wp2
  refine wp_loop_rounds 2 ?_
  rw [rounds_succ]
  go_wp2_with fail
  rw [rounds_succ]
  go_wp2_with fail
  go_region_held3 (fun w'=>hp w' w.heap.size=some (.cells (cvals c (.slice a1 c.cells.length q1) (.slice a2 c.words.length q2)) 34)∧hp w' (w.heap.size+1)=some (.cells (hvals h) 70))
    (first|(simp [*,go_sem]))
    (first|((go_at_call 158;refine bHit w (by exact zB) fun bb=>?_;refine (GR.out _).mono ?_;rintro _ w2 ⟨rfl,hbw2⟩;have hCw2:Below w.heap.size w w2:=bT bb hbw2;have hsw2:=hbw2.size;(try simp at hsw2);have zz:=q4 hbw2 (b:=w.heap.size);(try simp [go_sem] at zz);(try clear z_wppp x_wppp f_wppp l_wppp);(try clear z_wpp x_wpp f_wpp l_wpp);(try clear z_wp x_wp f_wp l_wp);(try clear z_w x_w f_w l_w);obtain ⟨z_wppp,z_wpp,z_wp,z_w⟩:=zz;obtain ⟨x_wppp,f_wppp,l_wppp⟩:=bO z_wppp;obtain ⟨x_wpp,f_wpp,l_wpp⟩:=bO z_wpp;obtain ⟨x_wp,f_wp,l_wp⟩:=bO z_wp;obtain ⟨x_w,f_w,l_w⟩:=bO z_w;have hKw2:Below w.heap.size w w2:=hCw2;clear hbw2 bb);have r1:=own_below o1 hKw2;have r2:=own_below o2 hKw2))
  go_wp2
  try rw [Exit.noGoto_ret]
  refine bodyPost_ret (res_cct Tryz.results155 rfl (ldChan c (.slice a1 c.cells.length q1) (.slice a2 c.words.length q2) (by simp [go_sem, *] <;> rfl)) rfl (ldHand y0 (by simp [go_sem, *] <;> rfl))) rfl ⟨⟨_,_,rfl,?_,?_,fresh_refl _ _,fresh_refl _ _⟩,onlB (by exact zB)⟩
  · exact zO r1 o1
  · exact zO r2 o2
set_option maxRecDepth 100000 in
set_option maxHeartbeats 2000000 in
theorem growTouch_16b (c:Ch) (h:Ha) (v1 v2:Value) (lo:Nat) (w:World) (h1:OCells w lo v1 c.cells) (h2:OInts w lo v2 c.words) (hg:(c.cap == 0)=false) (hf:(c.fin == 40)=true) (hcall:callOk h.code h.elem=true) (hnx:0≤h.nxt∧h.nxt≤2) (hq:(h.pos == 16)=true) (hk:(h.code != 2)=false) :
    Calls Tryz.prog 155 #[.agg (cvals c v1 v2),.agg (hvals h)] w fun r w'=>StepO w w' lo v1 v2 ((c,grown8 h,true)) r:=by
  obtain ⟨y0,hy0⟩:∃ y0,grown8 h=y0:=⟨_,rfl⟩
  have GR:=Lib.hid fun W=>grown_any h W hcall hnx
  rw [hy0] at GR
  rw [hy0]
  clear hy0 hcall hnx
  have b1:=fun j (hj:v1.ownBlock=some j)=>(h1.lt j hj).2
  have b2:=fun j (hj:v2.ownBlock=some j)=>(h2.lt j hj).2
  obtain ⟨a1,q1,rfl,_⟩:=h1.seg
  obtain ⟨a2,q2,rfl,_⟩:=h2.seg
  have O1:=Lib.hid h1
  have O2:=Lib.hid h2
  clear h1 h2
  have o1:=O1.out
  have o2:=O2.out
  go_enter Tryz.func155,Tryz.ntmps155
  go_wp2
  go_step3
  go_wp2
  go_step3
  go_wp2
  refine wp_loop_rounds 2 ?_
  rw [rounds_succ]
  go_wp2_with fail
  rw [rounds_succ]
  go_wp2_with fail
  go_region_held3 (fun w'=>hp w' w.heap.size=some (.cells (cvals c (.slice a1 c.cells.length q1) (.slice a2 c.words.length q2)) 34)∧hp w' (w.heap.size+1)=some (.cells (hvals h) 70))
    (first|(simp [*,go_sem]))
    (first|((go_at_call 158;refine bHit w (by exact zB) fun bb=>?_;refine (GR.out _).mono ?_;rintro _ w2 ⟨rfl,hbw2⟩;have hCw2:Below w.heap.size w w2:=bT bb hbw2;have hsw2:=hbw2.size;(try simp at hsw2);have zz:=q4 hbw2 (b:=w.heap.size);(try simp [go_sem] at zz);(try clear z_wppp x_wppp f_wppp l_wppp);(try clear z_wpp x_wpp f_wpp l_wpp);(try clear z_wp x_wp f_wp l_wp);(try clear z_w x_w f_w l_w);obtain ⟨z_wppp,z_wpp,z_wp,z_w⟩:=zz;obtain ⟨x_wppp,f_wppp,l_wppp⟩:=bO z_wppp;obtain ⟨x_wpp,f_wpp,l_wpp⟩:=bO z_wpp;obtain ⟨x_wp,f_wp,l_wp⟩:=bO z_wp;obtain ⟨x_w,f_w,l_w⟩:=bO z_w;have hKw2:Below w.heap.size w w2:=hCw2;clear hbw2 bb);have r1:=own_below o1 hKw2;have r2:=own_below o2 hKw2))
  go_wp2
  try rw [Exit.noGoto_ret]
  refine bodyPost_ret (res_cct Tryz.results155 rfl (ldChan c (.slice a1 c.cells.length q1) (.slice a2 c.words.length q2) (by simp [go_sem, *] <;> rfl)) rfl (ldHand y0 (by simp [go_sem, *] <;> rfl))) rfl ⟨⟨_,_,rfl,?_,?_,fresh_refl _ _,fresh_refl _ _⟩,onlB (by exact zB)⟩
  · exact zO r1 o1
  · exact zO r2 o2
set_option maxRecDepth 100000 in
set_option maxHeartbeats 2000000 in
theorem growTouch_16c (c:Ch) (h:Ha) (v1 v2:Value) (lo:Nat) (w:World) (h1:OCells w lo v1 c.cells) (h2:OInts w lo v2 c.words) (hsr:0≤c.fin∧c.fin≤40) (hg:(c.cap == 0)=false) (hf:(c.fin == 40)=false) (hq:(h.pos == 16)=true) (hk:(h.code != 2)=false) :
    Calls Tryz.prog 155 #[.agg (cvals c v1 v2),.agg (hvals h)] w fun r w'=>StepO w w' lo v1 v2 (({ c with fin:=c.fin+1 },{ h with grow:=c.fin,pos:=17 },true)) r:=by
  have T:=Lib.hid fun W a b=>growNumber_any c h v1 v2 lo W a b hsr
  change Hid (∀ W,_→_→Calls _ _ _ _ (fun r w'=>StepO W w' lo v1 v2 (({ c with fin:=c.fin+1 },{ h with grow:=c.fin,pos:=17 },true)) r)) at T
  clear hsr
  generalize ({ c with fin:=c.fin+1 },{ h with grow:=c.fin,pos:=17 },true)=x at *
  have b1:=fun j (hj:v1.ownBlock=some j)=>(h1.lt j hj).2
  have b2:=fun j (hj:v2.ownBlock=some j)=>(h2.lt j hj).2
  have m1:∀ j,w.heap.size≤j→some j≠v1.ownBlock:=fun j hj e=>by have:=b1 _ e.symm;omega
  have m2:∀ j,w.heap.size≤j→some j≠v2.ownBlock:=fun j hj e=>by have:=b2 _ e.symm;omega
  have m10:=m1 (w.heap.size) (by omega)
  have m20:=m2 (w.heap.size) (by omega)
  have m11:=m1 (w.heap.size+1) (by omega)
  have m21:=m2 (w.heap.size+1) (by omega)
  have m12:=m1 (w.heap.size+1+1) (by omega)
  have m22:=m2 (w.heap.size+1+1) (by omega)
  have m13:=m1 (w.heap.size+1+1+1) (by omega)
  have m23:=m2 (w.heap.size+1+1+1) (by omega)
  have o1:=h1
  have o2:=h2
  obtain ⟨a1,q1,e1,_⟩:=h1.seg
  obtain ⟨a2,q2,e2,_⟩:=h2.seg
  subst e1 e2
  clear h1 h2
  go_enter Tryz.func155,Tryz.ntmps155
  go_wp2
  go_step3
  go_wp2
  go_step3
  go_wp2
  refine wp_loop_rounds 2 ?_
  rw [rounds_succ]
  go_wp2_with fail
  refine (T.out _ (by exact zO o1 o1) (by exact zO o2 o2)).mono ?_
  rintro _ w3 ⟨⟨y1,y2,rfl,oY1,oY2,fY1,fY2⟩,hO⟩
  have hO3:Onl (Value.slice a1 c.cells.length q1).ownBlock (Value.slice a2 c.words.length q2).ownBlock w w3:=onlT (onlB (by exact zB)) hO
  have hsw3:=hO.2.2.2.1;(try (simp at hsw3));have zz:=And.intro (onlHp hO (i:=w.heap.size+1+1+1) (by (try simp) <;> omega) (by assumption) (by assumption)) <| And.intro (onlHp hO (i:=w.heap.size+1+1) (by (try simp) <;> omega) (by assumption) (by assumption)) <| And.intro (onlHp hO (i:=w.heap.size+1) (by (try simp) <;> omega) (by assumption) (by assumption)) <| onlHp hO (i:=w.heap.size) (by (try simp) <;> omega) (by assumption) (by assumption);(try simp [go_sem] at zz);(try clear z_wppp x_wppp f_wppp l_wppp);(try clear z_wpp x_wpp f_wpp l_wpp);(try clear z_wp x_wp f_wp l_wp);(try clear z_w x_w f_w l_w);obtain ⟨z_wppp,z_wpp,z_wp,z_w⟩:=zz;obtain ⟨x_wppp,f_wppp,l_wppp⟩:=bO z_wppp;obtain ⟨x_wpp,f_wpp,l_wpp⟩:=bO z_wpp;obtain ⟨x_wp,f_wp,l_wp⟩:=bO z_wp;obtain ⟨x_w,f_w,l_w⟩:=bO z_w
  clear hO
  have hoff1:∀ j,w.heap.size≤j→j<w.heap.size+1+1+1+1→y1.ownBlock≠some j:=fun j h1 h2=>fY1.off b1 h1 (by (try simp) <;> omega);have hoff2:∀ j,w.heap.size≤j→j<w.heap.size+1+1+1+1→y2.ownBlock≠some j:=fun j h1 h2=>fY2.off b2 h1 (by (try simp) <;> omega);have fr1:Fresh w _ y1:=fun j hj=>(fY1 j hj).imp id (fun h=>Nat.le_trans (by (try simp) <;> omega) h);have fr2:Fresh w _ y2:=fun j hj=>(fY2 j hj).imp id (fun h=>Nat.le_trans (by (try simp) <;> omega) h);obtain ⟨ya,yp,rfl,_⟩:=oY1.seg;obtain ⟨yb,yq,rfl,_⟩:=oY2.seg
  go_wp2
  try rw [Exit.noGoto_ret]
  refine bodyPost_ret (res_cct Tryz.results155 rfl (ldChan x.1 (.slice ya x.1.cells.length yp) (.slice yb x.1.words.length yq) (by simp [go_sem, *])) rfl (ldHand x.2.1 (by simp [go_sem, *]))) rfl ⟨⟨_,_,rfl,?_,?_,fr1,fr2⟩,by (repeat (first|with_reducible assumption|with_reducible refine oA ?_|with_reducible refine oD ?_|((with_reducible refine oX ?_ ?_);rotate_left;(focus ((try dsimp only);(try simp);(try omega))))|((with_reducible refine oS ?_ ?_);rotate_left;(focus ((try dsimp only);(try simp);(try omega))))))⟩
  · exact zP oY1 oY1 hoff1
  · exact zP oY2 oY2 hoff2
set_option maxRecDepth 100000 in
set_option maxHeartbeats 2000000 in
theorem growTouch_17a (c:Ch) (h:Ha) (v1 v2:Value) (lo:Nat) (w:World) (h1:OCells w lo v1 c.cells) (h2:OInts w lo v2 c.words) (hg:c.sent≤h.grow) (hcall:callOk h.code h.elem=true) (hnx:0≤h.nxt∧h.nxt≤2) (hq:(h.pos == 17)=true) (hk:(h.code != 2)=false) :
    Calls Tryz.prog 155 #[.agg (cvals c v1 v2),.agg (hvals h)] w fun r w'=>StepO w w' lo v1 v2 ((c,grown8 h,true)) r:=by
  obtain ⟨y0,hy0⟩:∃ y0,grown8 h=y0:=⟨_,rfl⟩
  have GR:=Lib.hid fun W=>grown_any h W hcall hnx
  rw [hy0] at GR
  rw [hy0]
  clear hy0 hcall hnx
  have n16:(h.pos == 16)=false:=by simp at hq ⊢;omega
  have b1:=fun j (hj:v1.ownBlock=some j)=>(h1.lt j hj).2
  have b2:=fun j (hj:v2.ownBlock=some j)=>(h2.lt j hj).2
  obtain ⟨a1,q1,rfl,_⟩:=h1.seg
  obtain ⟨a2,q2,rfl,_⟩:=h2.seg
  have O1:=Lib.hid h1
  have O2:=Lib.hid h2
  clear h1 h2
  have o1:=O1.out
  have o2:=O2.out
  go_enter Tryz.func155,Tryz.ntmps155
  go_wp2
  go_step3
  go_wp2
  go_step3
  go_wp2
  refine wp_loop_rounds 2 ?_
  rw [rounds_succ]
  go_wp2_with fail
  rw [rounds_succ]
  go_wp2_with fail
  go_region_held3 (fun w'=>hp w' w.heap.size=some (.cells (cvals c (.slice a1 c.cells.length q1) (.slice a2 c.words.length q2)) 34)∧hp w' (w.heap.size+1)=some (.cells (hvals h) 70))
    (first|(simp [*,go_sem]))
    (first|((go_at_call 158;refine bHit w (by exact zB) fun bb=>?_;refine (GR.out _).mono ?_;rintro _ w2 ⟨rfl,hbw2⟩;have hCw2:Below w.heap.size w w2:=bT bb hbw2;have hsw2:=hbw2.size;(try simp at hsw2);have zz:=q4 hbw2 (b:=w.heap.size);(try simp [go_sem] at zz);(try clear z_wppp x_wppp f_wppp l_wppp);(try clear z_wpp x_wpp f_wpp l_wpp);(try clear z_wp x_wp f_wp l_wp);(try clear z_w x_w f_w l_w);obtain ⟨z_wppp,z_wpp,z_wp,z_w⟩:=zz;obtain ⟨x_wppp,f_wppp,l_wppp⟩:=bO z_wppp;obtain ⟨x_wpp,f_wpp,l_wpp⟩:=bO z_wpp;obtain ⟨x_wp,f_wp,l_wp⟩:=bO z_wp;obtain ⟨x_w,f_w,l_w⟩:=bO z_w;have hKw2:Below w.heap.size w w2:=hCw2;clear hbw2 bb);have r1:=own_below o1 hKw2;have r2:=own_below o2 hKw2))
  go_wp2
  try rw [Exit.noGoto_ret]
  refine bodyPost_ret (res_cct Tryz.results155 rfl (ldChan c (.slice a1 c.cells.length q1) (.slice a2 c.words.length q2) (by simp [go_sem, *] <;> rfl)) rfl (ldHand y0 (by simp [go_sem, *] <;> rfl))) rfl ⟨⟨_,_,rfl,?_,?_,fresh_refl _ _,fresh_refl _ _⟩,onlB (by exact zB)⟩
  · exact zO r1 o1
  · exact zO r2 o2
set_option maxRecDepth 100000 in
set_option maxHeartbeats 2000000 in
theorem growTouch_17b (c:Ch) (h:Ha) (v1 v2:Value) (lo:Nat) (w:World) (h1:OCells w lo v1 c.cells) (h2:OInts w lo v2 c.words) (hg:¬ c.sent≤h.grow) (hq:(h.pos == 17)=true) (hk:(h.code != 2)=false) :
    Calls Tryz.prog 155 #[.agg (cvals c v1 v2),.agg (hvals h)] w fun r w'=>StepO w w' lo v1 v2 ((c,{ h with pos:=18 },true)) r:=by
  have n16:(h.pos == 16)=false:=by simp at hq ⊢;omega
  have b1:=fun j (hj:v1.ownBlock=some j)=>(h1.lt j hj).2
  have b2:=fun j (hj:v2.ownBlock=some j)=>(h2.lt j hj).2
  obtain ⟨a1,q1,rfl,_⟩:=h1.seg
  obtain ⟨a2,q2,rfl,_⟩:=h2.seg
  have O1:=Lib.hid h1
  have O2:=Lib.hid h2
  clear h1 h2
  have o1:=O1.out
  have o2:=O2.out
  go_enter Tryz.func155,Tryz.ntmps155
  go_wp2
  go_step3
  go_wp2
  go_step3
  go_wp2
  refine wp_loop_rounds 2 ?_
  rw [rounds_succ]
  go_wp2_with fail
  go_region_held3 (fun w'=>hp w' w.heap.size=some (.cells (cvals c (.slice a1 c.cells.length q1) (.slice a2 c.words.length q2)) 34)∧hp w' (w.heap.size+1)=some (.cells (hvals h) 70))
    (first|(simp [*,go_sem]))
    (first|((go_at_call 133;refine bHit w (by exact zB) fun bb=>?_;refine (moved_any _ _ _).mono ?_;rintro _ w2 ⟨rfl,hbw2⟩;have hCw2:Below w.heap.size w w2:=bT bb hbw2;have hsw2:=hbw2.size;(try simp at hsw2);have zz:=q4 hbw2 (b:=w.heap.size);(try simp [go_sem] at zz);(try clear z_wppp x_wppp f_wppp l_wppp);(try clear z_wpp x_wpp f_wpp l_wpp);(try clear z_wp x_wp f_wp l_wp);(try clear z_w x_w f_w l_w);obtain ⟨z_wppp,z_wpp,z_wp,z_w⟩:=zz;obtain ⟨x_wppp,f_wppp,l_wppp⟩:=bO z_wppp;obtain ⟨x_wpp,f_wpp,l_wpp⟩:=bO z_wpp;obtain ⟨x_wp,f_wp,l_wp⟩:=bO z_wp;obtain ⟨x_w,f_w,l_w⟩:=bO z_w;have hKw2:Below w.heap.size w w2:=hCw2;clear hbw2 bb);have r1:=own_below o1 hKw2;have r2:=own_below o2 hKw2))
  go_wp2
  try rw [Exit.noGoto_ret]
  refine bodyPost_ret (res_cct Tryz.results155 rfl (ldChan c (.slice a1 c.cells.length q1) (.slice a2 c.words.length q2) (by simp [go_sem, *] <;> rfl)) rfl (ldHand { h with pos:=18 } (by simp [go_sem, *] <;> rfl))) rfl ⟨⟨_,_,rfl,?_,?_,fresh_refl _ _,fresh_refl _ _⟩,onlB (by exact zB)⟩
  · exact zO r1 o1
  · exact zO r2 o2
set_option maxRecDepth 100000 in
set_option maxHeartbeats 2000000 in
theorem growTouch_18_5 (c:Ch) (h:Ha) (v1 v2:Value) (lo:Nat) (w:World) (h1:OCells w lo v1 c.cells) (h2:OInts w lo v2 c.words) (hc0:0≤h.grow) (hc1:h.grow<c.cells.length) (hn:(cellAt c h.grow).s=5) (hq:(h.pos == 18)=true) (hk:(h.code != 2)=false) :
    Calls Tryz.prog 155 #[.agg (cvals c v1 v2),.agg (hvals h)] w fun r w'=>StepO w w' lo v1 v2 ((c,h,false)) r:=by
  have n16:(h.pos == 16)=false:=by simp at hq ⊢;omega
  have n17:(h.pos == 17)=false:=by simp at hq ⊢;omega
  obtain ⟨i,hci⟩:∃ i:Nat,h.grow=(i:Int):=⟨h.grow.toNat,by omega⟩
  have hi:i<c.cells.length:=by omega
  have hi0:(0:Int)≤(i:Int):=by omega
  have hi1:(i:Int)<(c.cells.length:Int):=by omega
  have hne:=h1.ne h2
  obtain ⟨a2,q2,rfl,_⟩:=h2.seg
  obtain ⟨g,q1,rfl,hlo1,hlt,hcell,hfr⟩:=h1.open1 hi
  have O1:=Lib.hid h1
  have O2:=Lib.hid h2
  have lg0:g<w.heap.size+1:=by omega
  have lg1:g<w.heap.size+1+1:=by omega
  have lg2:g<w.heap.size+1+1+1:=by omega
  have ng0:g≠w.heap.size:=by omega
  have ng1:g≠w.heap.size+1:=by omega
  have ng2:g≠w.heap.size+1+1:=by omega
  have ng3:g≠w.heap.size+1+1+1:=by omega
  have mg0:w.heap.size≠g:=by omega
  have mg1:w.heap.size+1≠g:=by omega
  have mg2:w.heap.size+1+1≠g:=by omega
  have mg3:w.heap.size+1+1+1≠g:=by omega
  have hx:Hid (cellAt c h.grow=c.cells.getD i ⟨0,0,0⟩):=by simp [cellAt,Hid,hci]
  have c0:=hcell 0 (by omega)
  have c1:=hcell 1 (by omega)
  have c2:=hcell 2 (by omega)
  simp only [C3.val,Nat.add_zero] at c0 c1 c2
  have ex:=hx.out
  rw [ex] at hn
  generalize c.cells.getD i ⟨0,0,0⟩=x at *
  obtain ⟨s,e,t⟩:=x
  simp only at hn c0 c1 c2
  subst hn
  clear hx ex hcell h1 h2
  have o1:=O1.out
  have o2:=O2.out
  go_enter Tryz.func155,Tryz.ntmps155
  go_wp2
  go_step3
  go_wp2
  go_step3
  go_wp2
  refine wp_loop_rounds 2 ?_
  rw [rounds_succ]
  have r1:=o1
  have r2:=o2
  go_wp2_with fail
  go_region
  go_wp2
  try rw [Exit.noGoto_ret]
  refine bodyPost_ret (res_cct Tryz.results155 rfl (ldChan c (.slice (some ⟨g,0,none⟩) c.cells.length q1) (.slice a2 c.words.length q2) (by simp [go_sem, *] <;> rfl)) rfl (ldHand h (by simp [go_sem, *] <;> first|rfl|simp [seenAs,hci]))) rfl ⟨⟨_,_,rfl,?_,?_,fresh_refl _ _,fresh_refl _ _⟩,onlB (by exact zB)⟩
  · exact zO r1 o1
  · exact zO r2 o2
set_option maxRecDepth 100000 in
set_option maxHeartbeats 2000000 in
theorem growTouch_18_0 (c:Ch) (h:Ha) (v1 v2:Value) (lo:Nat) (w:World) (h1:OCells w lo v1 c.cells) (h2:OInts w lo v2 c.words) (hc0:0≤h.grow) (hc1:h.grow<c.cells.length) (hn:(cellAt c h.grow).s=0) (hq:(h.pos == 18)=true) (hk:(h.code != 2)=false) :
    Calls Tryz.prog 155 #[.agg (cvals c v1 v2),.agg (hvals h)] w fun r w'=>StepO w w' lo v1 v2 ((c,{ seenAs h (cellAt c h.grow) with pos:=19 },true)) r:=by
  have n16:(h.pos == 16)=false:=by simp at hq ⊢;omega
  have n17:(h.pos == 17)=false:=by simp at hq ⊢;omega
  obtain ⟨i,hci⟩:∃ i:Nat,h.grow=(i:Int):=⟨h.grow.toNat,by omega⟩
  have hi:i<c.cells.length:=by omega
  have hi0:(0:Int)≤(i:Int):=by omega
  have hi1:(i:Int)<(c.cells.length:Int):=by omega
  have hne:=h1.ne h2
  obtain ⟨a2,q2,rfl,_⟩:=h2.seg
  obtain ⟨g,q1,rfl,hlo1,hlt,hcell,hfr⟩:=h1.open1 hi
  have O1:=Lib.hid h1
  have O2:=Lib.hid h2
  have lg0:g<w.heap.size+1:=by omega
  have lg1:g<w.heap.size+1+1:=by omega
  have lg2:g<w.heap.size+1+1+1:=by omega
  have ng0:g≠w.heap.size:=by omega
  have ng1:g≠w.heap.size+1:=by omega
  have ng2:g≠w.heap.size+1+1:=by omega
  have ng3:g≠w.heap.size+1+1+1:=by omega
  have mg0:w.heap.size≠g:=by omega
  have mg1:w.heap.size+1≠g:=by omega
  have mg2:w.heap.size+1+1≠g:=by omega
  have mg3:w.heap.size+1+1+1≠g:=by omega
  have hx:Hid (cellAt c h.grow=c.cells.getD i ⟨0,0,0⟩):=by simp [cellAt,Hid,hci]
  have c0:=hcell 0 (by omega)
  have c1:=hcell 1 (by omega)
  have c2:=hcell 2 (by omega)
  simp only [C3.val,Nat.add_zero] at c0 c1 c2
  have ex:=hx.out
  rw [ex] at hn ⊢
  generalize c.cells.getD i ⟨0,0,0⟩=x at *
  obtain ⟨s,e,t⟩:=x
  simp only at hn c0 c1 c2
  subst hn
  clear hx ex hcell h1 h2
  have o1:=O1.out
  have o2:=O2.out
  go_enter Tryz.func155,Tryz.ntmps155
  go_wp2
  go_step3
  go_wp2
  go_step3
  go_wp2
  refine wp_loop_rounds 2 ?_
  rw [rounds_succ]
  go_wp2_with fail;refine bHit w (by exact zB) fun bb=>?_;refine (saw_any h 0 e t _).mono ?_;rintro _ w1 ⟨rfl,hbw1⟩;have hCw1:Below w.heap.size w w1:=bT bb hbw1;have hsw1:=hbw1.size;(try simp at hsw1);have zz:=And.intro (hQ hbw1 (b:=w.heap.size+1+1+1+1)) <| And.intro (hQ hbw1 (b:=w.heap.size+1+1+1)) <| And.intro (hQ hbw1 (b:=w.heap.size+1+1)) <| And.intro (hQ hbw1 (b:=w.heap.size+1)) <| hQ hbw1 (b:=w.heap.size);(try simp [go_sem] at zz);(try clear z_wpppp x_wpppp f_wpppp l_wpppp);(try clear z_wppp x_wppp f_wppp l_wppp);(try clear z_wpp x_wpp f_wpp l_wpp);(try clear z_wp x_wp f_wp l_wp);(try clear z_w x_w f_w l_w);obtain ⟨z_wpppp,z_wppp,z_wpp,z_wp,z_w⟩:=zz;obtain ⟨x_wpppp,f_wpppp,l_wpppp⟩:=bO z_wpppp;obtain ⟨x_wppp,f_wppp,l_wppp⟩:=bO z_wppp;obtain ⟨x_wpp,f_wpp,l_wpp⟩:=bO z_wpp;obtain ⟨x_wp,f_wp,l_wp⟩:=bO z_wp;obtain ⟨x_w,f_w,l_w⟩:=bO z_w;have hKw1:Below w.heap.size w w1:=hCw1;clear hbw1 bb
  have p1:=own_below o1 hKw1
  have p2:=own_below o2 hKw1
  have k0:w.heap.size<w1.heap.size:=by omega
  have k1:w.heap.size+1<w1.heap.size:=by omega
  have k2:w.heap.size+1+1<w1.heap.size:=by omega
  have k3:w.heap.size+1+1+1<w1.heap.size:=by omega
  have k4:w.heap.size+1+1+1+1<w1.heap.size:=by omega
  go_wp2_with fail
  go_region_held3 (fun w'=>hp w' w.heap.size=some (.cells (cvals c (.slice (some ⟨g,0,none⟩) c.cells.length q1) (.slice a2 c.words.length q2)) 34)∧hp w' (w.heap.size+1)=some (.cells (hvals { h with grow:=(i:Int),seen:=0,wait:=t }) 70))
    (first|(simp [*,go_sem]))
    (first|((go_at_call 133;refine bHit w (by exact zB) fun bb=>?_;refine (moved_any _ _ _).mono ?_;rintro _ w2 ⟨rfl,hbw2⟩;have hCw2:Below w.heap.size w w2:=bT bb hbw2;have hsw2:=hbw2.size;(try simp at hsw2);have zz:=q4 hbw2 (b:=w.heap.size);(first|simp [go_sem,z_wppp,z_wpp,z_wp,z_w,l_w,l_wp,l_wpp,l_wppp,k0,k1,k2,k3,k4] at zz|simp [go_sem] at zz|skip);(try clear z_wppp x_wppp f_wppp l_wppp);(try clear z_wpp x_wpp f_wpp l_wpp);(try clear z_wp x_wp f_wp l_wp);(try clear z_w x_w f_w l_w);obtain ⟨z_wppp,z_wpp,z_wp,z_w⟩:=zz;obtain ⟨x_wppp,f_wppp,l_wppp⟩:=bO z_wppp;obtain ⟨x_wpp,f_wpp,l_wpp⟩:=bO z_wpp;obtain ⟨x_wp,f_wp,l_wp⟩:=bO z_wp;obtain ⟨x_w,f_w,l_w⟩:=bO z_w;have hKw2:Below w.heap.size w w2:=hCw2;clear hbw2 bb);have r1:=own_below o1 hKw2;have r2:=own_below o2 hKw2))
  go_wp2
  try rw [Exit.noGoto_ret]
  refine bodyPost_ret (res_cct Tryz.results155 rfl (ldChan c (.slice (some ⟨g,0,none⟩) c.cells.length q1) (.slice a2 c.words.length q2) (by simp [go_sem, *] <;> rfl)) rfl (ldHand { seenAs h ⟨0,e,t⟩ with pos:=19 } (by simp [go_sem, *] <;> first|rfl|simp [seenAs,hci]))) rfl ⟨⟨_,_,rfl,?_,?_,fresh_refl _ _,fresh_refl _ _⟩,onlB (by exact zB)⟩
  · exact zO r1 o1
  · exact zO r2 o2
set_option maxRecDepth 100000 in
set_option maxHeartbeats 2000000 in
theorem growTouch_18_3 (c:Ch) (h:Ha) (v1 v2:Value) (lo:Nat) (w:World) (h1:OCells w lo v1 c.cells) (h2:OInts w lo v2 c.words) (hc0:0≤h.grow) (hc1:h.grow<c.cells.length) (hn:(cellAt c h.grow).s=3) (hq:(h.pos == 18)=true) (hk:(h.code != 2)=false) :
    Calls Tryz.prog 155 #[.agg (cvals c v1 v2),.agg (hvals h)] w fun r w'=>StepO w w' lo v1 v2 ((c,{ seenAs h (cellAt c h.grow) with pos:=19 },true)) r:=by
  have n16:(h.pos == 16)=false:=by simp at hq ⊢;omega
  have n17:(h.pos == 17)=false:=by simp at hq ⊢;omega
  obtain ⟨i,hci⟩:∃ i:Nat,h.grow=(i:Int):=⟨h.grow.toNat,by omega⟩
  have hi:i<c.cells.length:=by omega
  have hi0:(0:Int)≤(i:Int):=by omega
  have hi1:(i:Int)<(c.cells.length:Int):=by omega
  have hne:=h1.ne h2
  obtain ⟨a2,q2,rfl,_⟩:=h2.seg
  obtain ⟨g,q1,rfl,hlo1,hlt,hcell,hfr⟩:=h1.open1 hi
  have O1:=Lib.hid h1
  have O2:=Lib.hid h2
  have lg0:g<w.heap.size+1:=by omega
  have lg1:g<w.heap.size+1+1:=by omega
  have lg2:g<w.heap.size+1+1+1:=by omega
  have ng0:g≠w.heap.size:=by omega
  have ng1:g≠w.heap.size+1:=by omega
  have ng2:g≠w.heap.size+1+1:=by omega
  have ng3:g≠w.heap.size+1+1+1:=by omega
  have mg0:w.heap.size≠g:=by omega
  have mg1:w.heap.size+1≠g:=by omega
  have mg2:w.heap.size+1+1≠g:=by omega
  have mg3:w.heap.size+1+1+1≠g:=by omega
  have hx:Hid (cellAt c h.grow=c.cells.getD i ⟨0,0,0⟩):=by simp [cellAt,Hid,hci]
  have c0:=hcell 0 (by omega)
  have c1:=hcell 1 (by omega)
  have c2:=hcell 2 (by omega)
  simp only [C3.val,Nat.add_zero] at c0 c1 c2
  have ex:=hx.out
  rw [ex] at hn ⊢
  generalize c.cells.getD i ⟨0,0,0⟩=x at *
  obtain ⟨s,e,t⟩:=x
  simp only at hn c0 c1 c2
  subst hn
  clear hx ex hcell h1 h2
  have o1:=O1.out
  have o2:=O2.out
  go_enter Tryz.func155,Tryz.ntmps155
  go_wp2
  go_step3
  go_wp2
  go_step3
  go_wp2
  refine wp_loop_rounds 2 ?_
  rw [rounds_succ]
  go_wp2_with fail;refine bHit w (by exact zB) fun bb=>?_;refine (saw_any h 3 e t _).mono ?_;rintro _ w1 ⟨rfl,hbw1⟩;have hCw1:Below w.heap.size w w1:=bT bb hbw1;have hsw1:=hbw1.size;(try simp at hsw1);have zz:=And.intro (hQ hbw1 (b:=w.heap.size+1+1+1+1)) <| And.intro (hQ hbw1 (b:=w.heap.size+1+1+1)) <| And.intro (hQ hbw1 (b:=w.heap.size+1+1)) <| And.intro (hQ hbw1 (b:=w.heap.size+1)) <| hQ hbw1 (b:=w.heap.size);(try simp [go_sem] at zz);(try clear z_wpppp x_wpppp f_wpppp l_wpppp);(try clear z_wppp x_wppp f_wppp l_wppp);(try clear z_wpp x_wpp f_wpp l_wpp);(try clear z_wp x_wp f_wp l_wp);(try clear z_w x_w f_w l_w);obtain ⟨z_wpppp,z_wppp,z_wpp,z_wp,z_w⟩:=zz;obtain ⟨x_wpppp,f_wpppp,l_wpppp⟩:=bO z_wpppp;obtain ⟨x_wppp,f_wppp,l_wppp⟩:=bO z_wppp;obtain ⟨x_wpp,f_wpp,l_wpp⟩:=bO z_wpp;obtain ⟨x_wp,f_wp,l_wp⟩:=bO z_wp;obtain ⟨x_w,f_w,l_w⟩:=bO z_w;have hKw1:Below w.heap.size w w1:=hCw1;clear hbw1 bb
  have p1:=own_below o1 hKw1
  have p2:=own_below o2 hKw1
  have k0:w.heap.size<w1.heap.size:=by omega
  have k1:w.heap.size+1<w1.heap.size:=by omega
  have k2:w.heap.size+1+1<w1.heap.size:=by omega
  have k3:w.heap.size+1+1+1<w1.heap.size:=by omega
  have k4:w.heap.size+1+1+1+1<w1.heap.size:=by omega
  go_wp2_with fail
  go_region_held3 (fun w'=>hp w' w.heap.size=some (.cells (cvals c (.slice (some ⟨g,0,none⟩) c.cells.length q1) (.slice a2 c.words.length q2)) 34)∧hp w' (w.heap.size+1)=some (.cells (hvals { h with grow:=(i:Int),seen:=3,wait:=t }) 70))
    (first|(simp [*,go_sem]))
    (first|((go_at_call 133;refine bHit w (by exact zB) fun bb=>?_;refine (moved_any _ _ _).mono ?_;rintro _ w2 ⟨rfl,hbw2⟩;have hCw2:Below w.heap.size w w2:=bT bb hbw2;have hsw2:=hbw2.size;(try simp at hsw2);have zz:=q4 hbw2 (b:=w.heap.size);(first|simp [go_sem,z_wppp,z_wpp,z_wp,z_w,l_w,l_wp,l_wpp,l_wppp,k0,k1,k2,k3,k4] at zz|simp [go_sem] at zz|skip);(try clear z_wppp x_wppp f_wppp l_wppp);(try clear z_wpp x_wpp f_wpp l_wpp);(try clear z_wp x_wp f_wp l_wp);(try clear z_w x_w f_w l_w);obtain ⟨z_wppp,z_wpp,z_wp,z_w⟩:=zz;obtain ⟨x_wppp,f_wppp,l_wppp⟩:=bO z_wppp;obtain ⟨x_wpp,f_wpp,l_wpp⟩:=bO z_wpp;obtain ⟨x_wp,f_wp,l_wp⟩:=bO z_wp;obtain ⟨x_w,f_w,l_w⟩:=bO z_w;have hKw2:Below w.heap.size w w2:=hCw2;clear hbw2 bb);have r1:=own_below o1 hKw2;have r2:=own_below o2 hKw2))
  go_wp2
  try rw [Exit.noGoto_ret]
  refine bodyPost_ret (res_cct Tryz.results155 rfl (ldChan c (.slice (some ⟨g,0,none⟩) c.cells.length q1) (.slice a2 c.words.length q2) (by simp [go_sem, *] <;> rfl)) rfl (ldHand { seenAs h ⟨3,e,t⟩ with pos:=19 } (by simp [go_sem, *] <;> first|rfl|simp [seenAs,hci]))) rfl ⟨⟨_,_,rfl,?_,?_,fresh_refl _ _,fresh_refl _ _⟩,onlB (by exact zB)⟩
  · exact zO r1 o1
  · exact zO r2 o2
set_option maxRecDepth 100000 in
set_option maxHeartbeats 2000000 in
theorem growTouch_18_9 (c:Ch) (h:Ha) (v1 v2:Value) (lo:Nat) (w:World) (h1:OCells w lo v1 c.cells) (h2:OInts w lo v2 c.words) (hc0:0≤h.grow) (hc1:h.grow<c.cells.length) (hn:(cellAt c h.grow).s=9) (hq:(h.pos == 18)=true) (hk:(h.code != 2)=false) :
    Calls Tryz.prog 155 #[.agg (cvals c v1 v2),.agg (hvals h)] w fun r w'=>StepO w w' lo v1 v2 ((c,{ seenAs h (cellAt c h.grow) with pos:=16 },true)) r:=by
  have n16:(h.pos == 16)=false:=by simp at hq ⊢;omega
  have n17:(h.pos == 17)=false:=by simp at hq ⊢;omega
  obtain ⟨i,hci⟩:∃ i:Nat,h.grow=(i:Int):=⟨h.grow.toNat,by omega⟩
  have hi:i<c.cells.length:=by omega
  have hi0:(0:Int)≤(i:Int):=by omega
  have hi1:(i:Int)<(c.cells.length:Int):=by omega
  have hne:=h1.ne h2
  obtain ⟨a2,q2,rfl,_⟩:=h2.seg
  obtain ⟨g,q1,rfl,hlo1,hlt,hcell,hfr⟩:=h1.open1 hi
  have O1:=Lib.hid h1
  have O2:=Lib.hid h2
  have lg0:g<w.heap.size+1:=by omega
  have lg1:g<w.heap.size+1+1:=by omega
  have lg2:g<w.heap.size+1+1+1:=by omega
  have ng0:g≠w.heap.size:=by omega
  have ng1:g≠w.heap.size+1:=by omega
  have ng2:g≠w.heap.size+1+1:=by omega
  have ng3:g≠w.heap.size+1+1+1:=by omega
  have mg0:w.heap.size≠g:=by omega
  have mg1:w.heap.size+1≠g:=by omega
  have mg2:w.heap.size+1+1≠g:=by omega
  have mg3:w.heap.size+1+1+1≠g:=by omega
  have hx:Hid (cellAt c h.grow=c.cells.getD i ⟨0,0,0⟩):=by simp [cellAt,Hid,hci]
  have c0:=hcell 0 (by omega)
  have c1:=hcell 1 (by omega)
  have c2:=hcell 2 (by omega)
  simp only [C3.val,Nat.add_zero] at c0 c1 c2
  have ex:=hx.out
  rw [ex] at hn ⊢
  generalize c.cells.getD i ⟨0,0,0⟩=x at *
  obtain ⟨s,e,t⟩:=x
  simp only at hn c0 c1 c2
  subst hn
  clear hx ex hcell h1 h2
  have o1:=O1.out
  have o2:=O2.out
  go_enter Tryz.func155,Tryz.ntmps155
  go_wp2
  go_step3
  go_wp2
  go_step3
  go_wp2
  refine wp_loop_rounds 2 ?_
  rw [rounds_succ]
  go_wp2_with fail;refine bHit w (by exact zB) fun bb=>?_;refine (saw_any h 9 e t _).mono ?_;rintro _ w1 ⟨rfl,hbw1⟩;have hCw1:Below w.heap.size w w1:=bT bb hbw1;have hsw1:=hbw1.size;(try simp at hsw1);have zz:=And.intro (hQ hbw1 (b:=w.heap.size+1+1+1+1)) <| And.intro (hQ hbw1 (b:=w.heap.size+1+1+1)) <| And.intro (hQ hbw1 (b:=w.heap.size+1+1)) <| And.intro (hQ hbw1 (b:=w.heap.size+1)) <| hQ hbw1 (b:=w.heap.size);(try simp [go_sem] at zz);(try clear z_wpppp x_wpppp f_wpppp l_wpppp);(try clear z_wppp x_wppp f_wppp l_wppp);(try clear z_wpp x_wpp f_wpp l_wpp);(try clear z_wp x_wp f_wp l_wp);(try clear z_w x_w f_w l_w);obtain ⟨z_wpppp,z_wppp,z_wpp,z_wp,z_w⟩:=zz;obtain ⟨x_wpppp,f_wpppp,l_wpppp⟩:=bO z_wpppp;obtain ⟨x_wppp,f_wppp,l_wppp⟩:=bO z_wppp;obtain ⟨x_wpp,f_wpp,l_wpp⟩:=bO z_wpp;obtain ⟨x_wp,f_wp,l_wp⟩:=bO z_wp;obtain ⟨x_w,f_w,l_w⟩:=bO z_w;have hKw1:Below w.heap.size w w1:=hCw1;clear hbw1 bb
  have p1:=own_below o1 hKw1
  have p2:=own_below o2 hKw1
  have k0:w.heap.size<w1.heap.size:=by omega
  have k1:w.heap.size+1<w1.heap.size:=by omega
  have k2:w.heap.size+1+1<w1.heap.size:=by omega
  have k3:w.heap.size+1+1+1<w1.heap.size:=by omega
  have k4:w.heap.size+1+1+1+1<w1.heap.size:=by omega
  go_wp2_with fail
  go_region_held3 (fun w'=>hp w' w.heap.size=some (.cells (cvals c (.slice (some ⟨g,0,none⟩) c.cells.length q1) (.slice a2 c.words.length q2)) 34)∧hp w' (w.heap.size+1)=some (.cells (hvals { h with grow:=(i:Int),seen:=9,wait:=t }) 70))
    (first|(simp [*,go_sem]))
    (first|((go_at_call 133;refine bHit w (by exact zB) fun bb=>?_;refine (moved_any _ _ _).mono ?_;rintro _ w2 ⟨rfl,hbw2⟩;have hCw2:Below w.heap.size w w2:=bT bb hbw2;have hsw2:=hbw2.size;(try simp at hsw2);have zz:=q4 hbw2 (b:=w.heap.size);(first|simp [go_sem,z_wppp,z_wpp,z_wp,z_w,l_w,l_wp,l_wpp,l_wppp,k0,k1,k2,k3,k4] at zz|simp [go_sem] at zz|skip);(try clear z_wppp x_wppp f_wppp l_wppp);(try clear z_wpp x_wpp f_wpp l_wpp);(try clear z_wp x_wp f_wp l_wp);(try clear z_w x_w f_w l_w);obtain ⟨z_wppp,z_wpp,z_wp,z_w⟩:=zz;obtain ⟨x_wppp,f_wppp,l_wppp⟩:=bO z_wppp;obtain ⟨x_wpp,f_wpp,l_wpp⟩:=bO z_wpp;obtain ⟨x_wp,f_wp,l_wp⟩:=bO z_wp;obtain ⟨x_w,f_w,l_w⟩:=bO z_w;have hKw2:Below w.heap.size w w2:=hCw2;clear hbw2 bb);have r1:=own_below o1 hKw2;have r2:=own_below o2 hKw2))
  go_wp2
  try rw [Exit.noGoto_ret]
  refine bodyPost_ret (res_cct Tryz.results155 rfl (ldChan c (.slice (some ⟨g,0,none⟩) c.cells.length q1) (.slice a2 c.words.length q2) (by simp [go_sem, *] <;> rfl)) rfl (ldHand { seenAs h ⟨9,e,t⟩ with pos:=16 } (by simp [go_sem, *] <;> first|rfl|simp [seenAs,hci]))) rfl ⟨⟨_,_,rfl,?_,?_,fresh_refl _ _,fresh_refl _ _⟩,onlB (by exact zB)⟩
  · exact zO r1 o1
  · exact zO r2 o2
set_option maxRecDepth 100000 in
set_option maxHeartbeats 2000000 in
theorem growTouch_18_g (c:Ch) (h:Ha) (v1 v2:Value) (lo:Nat) (w:World) (h1:OCells w lo v1 c.cells) (h2:OInts w lo v2 c.words) (hc0:0≤h.grow) (hc1:h.grow<c.cells.length) (s5:((cellAt c h.grow).s == 5)=false) (s0:((cellAt c h.grow).s == 0)=false) (s3:((cellAt c h.grow).s == 3)=false) (s9:((cellAt c h.grow).s == 9)=false) (hcall:callOk h.code h.elem=true) (hnx:0≤h.nxt∧h.nxt≤2) (hq:(h.pos == 18)=true) (hk:(h.code != 2)=false) :
    Calls Tryz.prog 155 #[.agg (cvals c v1 v2),.agg (hvals h)] w fun r w'=>StepO w w' lo v1 v2 ((c,grown8 (seenAs h (cellAt c h.grow)),true)) r:=by
  have n16:(h.pos == 16)=false:=by simp at hq ⊢;omega
  have n17:(h.pos == 17)=false:=by simp at hq ⊢;omega
  obtain ⟨i,hci⟩:∃ i:Nat,h.grow=(i:Int):=⟨h.grow.toNat,by omega⟩
  have hi:i<c.cells.length:=by omega
  have hi0:(0:Int)≤(i:Int):=by omega
  have hi1:(i:Int)<(c.cells.length:Int):=by omega
  have hne:=h1.ne h2
  obtain ⟨a2,q2,rfl,_⟩:=h2.seg
  obtain ⟨g,q1,rfl,hlo1,hlt,hcell,hfr⟩:=h1.open1 hi
  have O1:=Lib.hid h1
  have O2:=Lib.hid h2
  have lg0:g<w.heap.size+1:=by omega
  have lg1:g<w.heap.size+1+1:=by omega
  have lg2:g<w.heap.size+1+1+1:=by omega
  have ng0:g≠w.heap.size:=by omega
  have ng1:g≠w.heap.size+1:=by omega
  have ng2:g≠w.heap.size+1+1:=by omega
  have ng3:g≠w.heap.size+1+1+1:=by omega
  have mg0:w.heap.size≠g:=by omega
  have mg1:w.heap.size+1≠g:=by omega
  have mg2:w.heap.size+1+1≠g:=by omega
  have mg3:w.heap.size+1+1+1≠g:=by omega
  have hx:Hid (cellAt c h.grow=c.cells.getD i ⟨0,0,0⟩):=by simp [cellAt,Hid,hci]
  have c0:=hcell 0 (by omega)
  have c1:=hcell 1 (by omega)
  have c2:=hcell 2 (by omega)
  simp only [C3.val,Nat.add_zero] at c0 c1 c2
  have ex:=hx.out
  rw [ex] at s5 s0 s3 s9 ⊢
  generalize c.cells.getD i ⟨0,0,0⟩=x at *
  obtain ⟨s,e,t⟩:=x
  simp only at s5 s0 s3 s9 c0 c1 c2
  clear hx ex hcell h1 h2
  obtain ⟨y0,hy0⟩:∃ y0,grown8 { h with grow:=(i:Int),seen:=s,wait:=t }=y0:=⟨_,rfl⟩
  have GR:=Lib.hid fun W=>grown_any { h with grow:=(i:Int),seen:=s,wait:=t } W hcall hnx
  rw [show seenAs h ⟨s,e,t⟩={ h with grow:=(i:Int),seen:=s,wait:=t } by rw [← hci];rfl]
  rw [hy0] at GR
  rw [hy0]
  clear hy0 hcall hnx
  have o1:=O1.out
  have o2:=O2.out
  go_enter Tryz.func155,Tryz.ntmps155
  go_wp2
  go_step3
  go_wp2
  go_step3
  go_wp2
  refine wp_loop_rounds 2 ?_
  rw [rounds_succ]
  go_wp2_with fail;refine bHit w (by exact zB) fun bb=>?_;refine (saw_any h s e t _).mono ?_;rintro _ w1 ⟨rfl,hbw1⟩;have hCw1:Below w.heap.size w w1:=bT bb hbw1;have hsw1:=hbw1.size;(try simp at hsw1);have zz:=And.intro (hQ hbw1 (b:=w.heap.size+1+1+1+1)) <| And.intro (hQ hbw1 (b:=w.heap.size+1+1+1)) <| And.intro (hQ hbw1 (b:=w.heap.size+1+1)) <| And.intro (hQ hbw1 (b:=w.heap.size+1)) <| hQ hbw1 (b:=w.heap.size);(try simp [go_sem] at zz);(try clear z_wpppp x_wpppp f_wpppp l_wpppp);(try clear z_wppp x_wppp f_wppp l_wppp);(try clear z_wpp x_wpp f_wpp l_wpp);(try clear z_wp x_wp f_wp l_wp);(try clear z_w x_w f_w l_w);obtain ⟨z_wpppp,z_wppp,z_wpp,z_wp,z_w⟩:=zz;obtain ⟨x_wpppp,f_wpppp,l_wpppp⟩:=bO z_wpppp;obtain ⟨x_wppp,f_wppp,l_wppp⟩:=bO z_wppp;obtain ⟨x_wpp,f_wpp,l_wpp⟩:=bO z_wpp;obtain ⟨x_wp,f_wp,l_wp⟩:=bO z_wp;obtain ⟨x_w,f_w,l_w⟩:=bO z_w;have hKw1:Below w.heap.size w w1:=hCw1;clear hbw1 bb
  have p1:=own_below o1 hKw1
  have p2:=own_below o2 hKw1
  have k0:w.heap.size<w1.heap.size:=by omega
  have k1:w.heap.size+1<w1.heap.size:=by omega
  have k2:w.heap.size+1+1<w1.heap.size:=by omega
  have k3:w.heap.size+1+1+1<w1.heap.size:=by omega
  have k4:w.heap.size+1+1+1+1<w1.heap.size:=by omega
  go_wp2_with fail
  rw [rounds_succ]
  go_wp2_with fail
  go_region_held3 (fun w'=>hp w' w.heap.size=some (.cells (cvals c (.slice (some ⟨g,0,none⟩) c.cells.length q1) (.slice a2 c.words.length q2)) 34)∧hp w' (w.heap.size+1)=some (.cells (hvals { h with grow:=(i:Int),seen:=s,wait:=t }) 70))
    (first|(simp [*,go_sem]))
    (first|((go_at_call 158;refine bHit w (by exact zB) fun bb=>?_;refine (GR.out _).mono ?_;rintro _ w2 ⟨rfl,hbw2⟩;have hCw2:Below w.heap.size w w2:=bT bb hbw2;have hsw2:=hbw2.size;(try simp at hsw2);have zz:=q4 hbw2 (b:=w.heap.size);(first|simp [go_sem,z_wppp,z_wpp,z_wp,z_w,l_w,l_wp,l_wpp,l_wppp,k0,k1,k2,k3,k4] at zz|simp [go_sem] at zz|skip);(try clear z_wppp x_wppp f_wppp l_wppp);(try clear z_wpp x_wpp f_wpp l_wpp);(try clear z_wp x_wp f_wp l_wp);(try clear z_w x_w f_w l_w);obtain ⟨z_wppp,z_wpp,z_wp,z_w⟩:=zz;obtain ⟨x_wppp,f_wppp,l_wppp⟩:=bO z_wppp;obtain ⟨x_wpp,f_wpp,l_wpp⟩:=bO z_wpp;obtain ⟨x_wp,f_wp,l_wp⟩:=bO z_wp;obtain ⟨x_w,f_w,l_w⟩:=bO z_w;have hKw2:Below w.heap.size w w2:=hCw2;clear hbw2 bb);have r1:=own_below o1 hKw2;have r2:=own_below o2 hKw2))
  go_wp2
  try rw [Exit.noGoto_ret]
  refine bodyPost_ret (res_cct Tryz.results155 rfl (ldChan c (.slice (some ⟨g,0,none⟩) c.cells.length q1) (.slice a2 c.words.length q2) (by simp [go_sem, *] <;> rfl)) rfl (ldHand y0 (by simp [go_sem, *] <;> first|rfl|simp [seenAs,hci]))) rfl ⟨⟨_,_,rfl,?_,?_,fresh_refl _ _,fresh_refl _ _⟩,onlB (by exact zB)⟩
  · exact zO r1 o1
  · exact zO r2 o2
set_option maxRecDepth 100000 in
set_option maxHeartbeats 2000000 in
theorem growTouch_19c (c:Ch) (h:Ha) (v1 v2:Value) (lo:Nat) (w:World) (h1:OCells w lo v1 c.cells) (h2:OInts w lo v2 c.words) (hc0:0≤h.grow) (hc1:h.grow<c.cells.length) (hs:(h.seen != 0)=true) (hq:(h.pos == 19)=true) (hk:(h.code != 2)=false) :
    Calls Tryz.prog 155 #[.agg (cvals c v1 v2),.agg (hvals h)] w fun r w'=>StepO w w' lo v1 v2 (callG c h) r:=by
  have T:=Lib.hid fun W a b=>growCall_any c h v1 v2 lo W a b hc0 hc1
  change Hid (∀ W,_→_→Calls _ _ _ _ (fun r w'=>StepO W w' lo v1 v2 (callG c h) r)) at T
  clear hc0 hc1
  have n16:(h.pos == 16)=false:=by simp at hq ⊢;omega
  have n17:(h.pos == 17)=false:=by simp at hq ⊢;omega
  have n18:(h.pos == 18)=false:=by simp at hq ⊢;omega
  generalize callG c h=x at *
  have b1:=fun j (hj:v1.ownBlock=some j)=>(h1.lt j hj).2
  have b2:=fun j (hj:v2.ownBlock=some j)=>(h2.lt j hj).2
  have m1:∀ j,w.heap.size≤j→some j≠v1.ownBlock:=fun j hj e=>by have:=b1 _ e.symm;omega
  have m2:∀ j,w.heap.size≤j→some j≠v2.ownBlock:=fun j hj e=>by have:=b2 _ e.symm;omega
  have m10:=m1 (w.heap.size) (by omega)
  have m20:=m2 (w.heap.size) (by omega)
  have m11:=m1 (w.heap.size+1) (by omega)
  have m21:=m2 (w.heap.size+1) (by omega)
  have m12:=m1 (w.heap.size+1+1) (by omega)
  have m22:=m2 (w.heap.size+1+1) (by omega)
  have m13:=m1 (w.heap.size+1+1+1) (by omega)
  have m23:=m2 (w.heap.size+1+1+1) (by omega)
  have o1:=h1
  have o2:=h2
  obtain ⟨a1,q1,e1,_⟩:=h1.seg
  obtain ⟨a2,q2,e2,_⟩:=h2.seg
  subst e1 e2
  clear h1 h2
  go_enter Tryz.func155,Tryz.ntmps155
  go_wp2
  go_step3
  go_wp2
  go_step3
  go_wp2
  refine wp_loop_rounds 2 ?_
  rw [rounds_succ]
  go_wp2_with fail
  refine (T.out _ (by exact zO o1 o1) (by exact zO o2 o2)).mono ?_
  rintro _ w3 ⟨⟨y1,y2,rfl,oY1,oY2,fY1,fY2⟩,hO⟩
  have hO3:Onl (Value.slice a1 c.cells.length q1).ownBlock (Value.slice a2 c.words.length q2).ownBlock w w3:=onlT (onlB (by exact zB)) hO
  have hsw3:=hO.2.2.2.1;(try (simp at hsw3));have zz:=And.intro (onlHp hO (i:=w.heap.size+1+1+1) (by (try simp) <;> omega) (by assumption) (by assumption)) <| And.intro (onlHp hO (i:=w.heap.size+1+1) (by (try simp) <;> omega) (by assumption) (by assumption)) <| And.intro (onlHp hO (i:=w.heap.size+1) (by (try simp) <;> omega) (by assumption) (by assumption)) <| onlHp hO (i:=w.heap.size) (by (try simp) <;> omega) (by assumption) (by assumption);(try simp [go_sem] at zz);(try clear z_wppp x_wppp f_wppp l_wppp);(try clear z_wpp x_wpp f_wpp l_wpp);(try clear z_wp x_wp f_wp l_wp);(try clear z_w x_w f_w l_w);obtain ⟨z_wppp,z_wpp,z_wp,z_w⟩:=zz;obtain ⟨x_wppp,f_wppp,l_wppp⟩:=bO z_wppp;obtain ⟨x_wpp,f_wpp,l_wpp⟩:=bO z_wpp;obtain ⟨x_wp,f_wp,l_wp⟩:=bO z_wp;obtain ⟨x_w,f_w,l_w⟩:=bO z_w
  clear hO
  have hoff1:∀ j,w.heap.size≤j→j<w.heap.size+1+1+1+1→y1.ownBlock≠some j:=fun j h1 h2=>fY1.off b1 h1 (by (try simp) <;> omega);have hoff2:∀ j,w.heap.size≤j→j<w.heap.size+1+1+1+1→y2.ownBlock≠some j:=fun j h1 h2=>fY2.off b2 h1 (by (try simp) <;> omega);have fr1:Fresh w _ y1:=fun j hj=>(fY1 j hj).imp id (fun h=>Nat.le_trans (by (try simp) <;> omega) h);have fr2:Fresh w _ y2:=fun j hj=>(fY2 j hj).imp id (fun h=>Nat.le_trans (by (try simp) <;> omega) h);obtain ⟨ya,yp,rfl,_⟩:=oY1.seg;obtain ⟨yb,yq,rfl,_⟩:=oY2.seg
  go_wp2
  try rw [Exit.noGoto_ret]
  refine bodyPost_ret (res_cct Tryz.results155 rfl (ldChan x.1 (.slice ya x.1.cells.length yp) (.slice yb x.1.words.length yq) (by simp [go_sem, *])) rfl (ldHand x.2.1 (by simp [go_sem, *]))) rfl ⟨⟨_,_,rfl,?_,?_,fr1,fr2⟩,by (repeat (first|with_reducible assumption|with_reducible refine oA ?_|with_reducible refine oD ?_|((with_reducible refine oX ?_ ?_);rotate_left;(focus ((try dsimp only);(try simp);(try omega))))|((with_reducible refine oS ?_ ?_);rotate_left;(focus ((try dsimp only);(try simp);(try omega))))))⟩
  · exact zP oY1 oY1 hoff1
  · exact zP oY2 oY2 hoff2
set_option maxRecDepth 100000 in
set_option maxHeartbeats 2000000 in
theorem growTouch_19y (c:Ch) (h:Ha) (v1 v2:Value) (lo:Nat) (w:World) (h1:OCells w lo v1 c.cells) (h2:OInts w lo v2 c.words) (hc0:0≤h.grow) (hc1:h.grow<c.cells.length) (hs:(h.seen != 0)=false) (hcall:callOk h.code h.elem=true) (hnx:0≤h.nxt∧h.nxt≤2) (ht:turnCB c h.grow 0 1 0=true) (hq:(h.pos == 19)=true) (hk:(h.code != 2)=false) :
    Calls Tryz.prog 155 #[.agg (cvals c v1 v2),.agg (hvals h)] w fun r w'=>StepO w w' lo v1 v2 ((turnC c h.grow 0 1 0,grown8 h,true)) r:=by
  have n16:(h.pos == 16)=false:=by simp at hq ⊢;omega
  have n17:(h.pos == 17)=false:=by simp at hq ⊢;omega
  have n18:(h.pos == 18)=false:=by simp at hq ⊢;omega
  obtain ⟨i,hci⟩:∃ i:Nat,h.grow=(i:Int):=⟨h.grow.toNat,by omega⟩
  have hi:i<c.cells.length:=by omega
  have T:=Lib.hid fun W a b=>turnedIn_any c i 0 1 0 v1 v2 lo W a b hi
  have ht2:=ht
  rw [hci] at ht2
  rw [ht2] at T
  have e0:turnC c h.grow 0 1 0=turnC c i 0 1 0:=by rw [hci]
  rw [e0]
  obtain ⟨y0,hy0⟩:∃ y0,grown8 h=y0:=⟨_,rfl⟩
  have GR:=Lib.hid fun W=>grown_any h W hcall hnx
  rw [hy0] at GR
  rw [hy0]
  clear hy0 hcall hnx
  have b1:=fun j (hj:v1.ownBlock=some j)=>(h1.lt j hj).2
  have b2:=fun j (hj:v2.ownBlock=some j)=>(h2.lt j hj).2
  have m1:∀ j,w.heap.size≤j→some j≠v1.ownBlock:=fun j hj e=>by have:=b1 _ e.symm;omega
  have m2:∀ j,w.heap.size≤j→some j≠v2.ownBlock:=fun j hj e=>by have:=b2 _ e.symm;omega
  have m10:=m1 (w.heap.size) (by omega)
  have m20:=m2 (w.heap.size) (by omega)
  have m11:=m1 (w.heap.size+1) (by omega)
  have m21:=m2 (w.heap.size+1) (by omega)
  have m12:=m1 (w.heap.size+1+1) (by omega)
  have m22:=m2 (w.heap.size+1+1) (by omega)
  have m13:=m1 (w.heap.size+1+1+1) (by omega)
  have m23:=m2 (w.heap.size+1+1+1) (by omega)
  have o1:=h1
  have o2:=h2
  obtain ⟨a1,q1,e1,_⟩:=h1.seg
  obtain ⟨a2,q2,e2,_⟩:=h2.seg
  subst e1 e2
  clear h1 h2 ht ht2 e0 hc0 hc1
  go_enter Tryz.func155,Tryz.ntmps155
  go_wp2
  go_step3
  go_wp2
  go_step3
  go_wp2
  refine wp_loop_rounds 2 ?_
  rw [rounds_succ]
  go_wp2_with fail;refine (T.out _ (by exact zO o1 o1) (by exact zO o2 o2)).mono ?_;rintro _ w1 ⟨rfl,p1,p2,hgw1⟩;have hsw1:=hgw1.size;(try (simp at hsw1));have zz:=And.intro (grHp hgw1 (b:=w.heap.size+1+1+1) (by (try simp) <;> omega) (by assumption)) <| And.intro (grHp hgw1 (b:=w.heap.size+1+1) (by (try simp) <;> omega) (by assumption)) <| And.intro (grHp hgw1 (b:=w.heap.size+1) (by (try simp) <;> omega) (by assumption)) <| grHp hgw1 (b:=w.heap.size) (by (try simp) <;> omega) (by assumption);(try simp [go_sem] at zz);(try clear z_wppp x_wppp f_wppp l_wppp);(try clear z_wpp x_wpp f_wpp l_wpp);(try clear z_wp x_wp f_wp l_wp);(try clear z_w x_w f_w l_w);obtain ⟨z_wppp,z_wpp,z_wp,z_w⟩:=zz;obtain ⟨x_wppp,f_wppp,l_wppp⟩:=bO z_wppp;obtain ⟨x_wpp,f_wpp,l_wpp⟩:=bO z_wpp;obtain ⟨x_wp,f_wp,l_wp⟩:=bO z_wp;obtain ⟨x_w,f_w,l_w⟩:=bO z_w;have hGw1:=grB (w:=w) (by exact zB) hgw1;clear hgw1
  have hO1:Onl (Value.slice a1 c.cells.length q1).ownBlock (Value.slice a2 c.words.length q2).ownBlock w w1:=onl1 hGw1
  have k0:w.heap.size<w1.heap.size:=by omega
  have k1:w.heap.size+1<w1.heap.size:=by omega
  have k2:w.heap.size+1+1<w1.heap.size:=by omega
  have k3:w.heap.size+1+1+1<w1.heap.size:=by omega
  have u1:OCells w1 lo (.slice a1 c.cells.length q1) (turnC c i 0 1 0).cells:=p1
  have u2:OInts w1 lo (.slice a2 c.words.length q2) (turnC c i 0 1 0).words:=p2
  clear p1 p2
  go_wp2_with fail
  rw [rounds_succ]
  go_wp2_with fail
  go_region_held3 (fun w'=>hp w' w.heap.size=some (.cells (cvals c (.slice a1 c.cells.length q1) (.slice a2 c.words.length q2)) 34)∧hp w' (w.heap.size+1)=some (.cells (hvals h) 70))
    (first|(simp [*,go_sem]))
    (first|(go_at_call 158;refine (GR.out _).mono ?_;rintro _ w2 ⟨rfl,hbw2⟩;have hO2:Onl (Value.slice a1 c.cells.length q1).ownBlock (Value.slice a2 c.words.length q2).ownBlock w w2:=onlT (by (repeat (first|with_reducible assumption|with_reducible refine oA ?_|with_reducible refine oD ?_|((with_reducible refine oX ?_ ?_);rotate_left;(focus ((try dsimp only);(try simp);(try omega))))|((with_reducible refine oS ?_ ?_);rotate_left;(focus ((try dsimp only);(try simp);(try omega))))))) (onlB hbw2);have p1:OCells w2 lo (.slice a1 c.cells.length q1) (turnC c i 0 1 0).cells:=own_below (by exact zO u1 o1) hbw2;have p2:OInts w2 lo (.slice a2 c.words.length q2) c.words:=own_below (by exact zO u2 o2) hbw2;have hsw2:=hbw2.size;(try simp at hsw2);have zz:=q4 hbw2 (b:=w.heap.size);(first|simp [go_sem,z_wppp,z_wpp,z_wp,z_w,l_w,l_wp,l_wpp,l_wppp,k0,k1,k2,k3] at zz|simp [go_sem] at zz|skip);(try clear z_wppp x_wppp f_wppp l_wppp);(try clear z_wpp x_wpp f_wpp l_wpp);(try clear z_wp x_wp f_wp l_wp);(try clear z_w x_w f_w l_w);obtain ⟨z_wppp,z_wpp,z_wp,z_w⟩:=zz;obtain ⟨x_wppp,f_wppp,l_wppp⟩:=bO z_wppp;obtain ⟨x_wpp,f_wpp,l_wpp⟩:=bO z_wpp;obtain ⟨x_wp,f_wp,l_wp⟩:=bO z_wp;obtain ⟨x_w,f_w,l_w⟩:=bO z_w;clear hbw2))
  go_wp2
  try rw [Exit.noGoto_ret]
  refine bodyPost_ret (res_cct Tryz.results155 rfl (ldChan c (.slice a1 c.cells.length q1) (.slice a2 c.words.length q2) (by simp [go_sem, *] <;> rfl)) rfl (ldHand y0 (by simp [go_sem, *] <;> first|rfl|simp [hci]))) rfl ⟨⟨_,_,rfl,?_,?_,fresh_refl _ _,fresh_refl _ _⟩,by (repeat (first|with_reducible assumption|with_reducible refine oA ?_|with_reducible refine oD ?_|((with_reducible refine oX ?_ ?_);rotate_left;(focus ((try dsimp only);(try simp);(try omega))))|((with_reducible refine oS ?_ ?_);rotate_left;(focus ((try dsimp only);(try simp);(try omega))))))⟩
  · exact zO p1 o1
  · exact zO p2 o2
set_option maxRecDepth 100000 in
set_option maxHeartbeats 2000000 in
theorem growTouch_19n0 (c:Ch) (h:Ha) (v1 v2:Value) (lo:Nat) (w:World) (h1:OCells w lo v1 c.cells) (h2:OInts w lo v2 c.words) (hc0:0≤h.grow) (hc1:h.grow<c.cells.length) (hs:(h.seen != 0)=false) (ht:turnCB c h.grow 0 1 0=false) (hq:(h.pos == 19)=true) (hk:(h.code != 2)=false) :
    Calls Tryz.prog 155 #[.agg (cvals c v1 v2),.agg (hvals h)] w fun r w'=>StepO w w' lo v1 v2 ((turnC c h.grow 0 1 0,{ h with pos:=18 },true)) r:=by
  have n16:(h.pos == 16)=false:=by simp at hq ⊢;omega
  have n17:(h.pos == 17)=false:=by simp at hq ⊢;omega
  have n18:(h.pos == 18)=false:=by simp at hq ⊢;omega
  obtain ⟨i,hci⟩:∃ i:Nat,h.grow=(i:Int):=⟨h.grow.toNat,by omega⟩
  have hi:i<c.cells.length:=by omega
  have T:=Lib.hid fun W a b=>turnedIn_any c i 0 1 0 v1 v2 lo W a b hi
  have ht2:=ht
  rw [hci] at ht2
  rw [ht2] at T
  have e0:turnC c h.grow 0 1 0=turnC c i 0 1 0:=by rw [hci]
  rw [e0]
  have b1:=fun j (hj:v1.ownBlock=some j)=>(h1.lt j hj).2
  have b2:=fun j (hj:v2.ownBlock=some j)=>(h2.lt j hj).2
  have m1:∀ j,w.heap.size≤j→some j≠v1.ownBlock:=fun j hj e=>by have:=b1 _ e.symm;omega
  have m2:∀ j,w.heap.size≤j→some j≠v2.ownBlock:=fun j hj e=>by have:=b2 _ e.symm;omega
  have m10:=m1 (w.heap.size) (by omega)
  have m20:=m2 (w.heap.size) (by omega)
  have m11:=m1 (w.heap.size+1) (by omega)
  have m21:=m2 (w.heap.size+1) (by omega)
  have m12:=m1 (w.heap.size+1+1) (by omega)
  have m22:=m2 (w.heap.size+1+1) (by omega)
  have m13:=m1 (w.heap.size+1+1+1) (by omega)
  have m23:=m2 (w.heap.size+1+1+1) (by omega)
  have o1:=h1
  have o2:=h2
  obtain ⟨a1,q1,e1,_⟩:=h1.seg
  obtain ⟨a2,q2,e2,_⟩:=h2.seg
  subst e1 e2
  clear h1 h2 ht ht2 e0 hc0 hc1
  go_enter Tryz.func155,Tryz.ntmps155
  go_wp2
  go_step3
  go_wp2
  go_step3
  go_wp2
  refine wp_loop_rounds 2 ?_
  rw [rounds_succ]
  go_wp2_with fail;refine (T.out _ (by exact zO o1 o1) (by exact zO o2 o2)).mono ?_;rintro _ w1 ⟨rfl,p1,p2,hgw1⟩;have hsw1:=hgw1.size;(try (simp at hsw1));have zz:=And.intro (grHp hgw1 (b:=w.heap.size+1+1+1) (by (try simp) <;> omega) (by assumption)) <| And.intro (grHp hgw1 (b:=w.heap.size+1+1) (by (try simp) <;> omega) (by assumption)) <| And.intro (grHp hgw1 (b:=w.heap.size+1) (by (try simp) <;> omega) (by assumption)) <| grHp hgw1 (b:=w.heap.size) (by (try simp) <;> omega) (by assumption);(try simp [go_sem] at zz);(try clear z_wppp x_wppp f_wppp l_wppp);(try clear z_wpp x_wpp f_wpp l_wpp);(try clear z_wp x_wp f_wp l_wp);(try clear z_w x_w f_w l_w);obtain ⟨z_wppp,z_wpp,z_wp,z_w⟩:=zz;obtain ⟨x_wppp,f_wppp,l_wppp⟩:=bO z_wppp;obtain ⟨x_wpp,f_wpp,l_wpp⟩:=bO z_wpp;obtain ⟨x_wp,f_wp,l_wp⟩:=bO z_wp;obtain ⟨x_w,f_w,l_w⟩:=bO z_w;have hGw1:=grB (w:=w) (by exact zB) hgw1;clear hgw1
  have hO1:Onl (Value.slice a1 c.cells.length q1).ownBlock (Value.slice a2 c.words.length q2).ownBlock w w1:=onl1 hGw1
  have k0:w.heap.size<w1.heap.size:=by omega
  have k1:w.heap.size+1<w1.heap.size:=by omega
  have k2:w.heap.size+1+1<w1.heap.size:=by omega
  have k3:w.heap.size+1+1+1<w1.heap.size:=by omega
  have u1:OCells w1 lo (.slice a1 c.cells.length q1) (turnC c i 0 1 0).cells:=p1
  have u2:OInts w1 lo (.slice a2 c.words.length q2) (turnC c i 0 1 0).words:=p2
  clear p1 p2
  go_wp2_with fail
  go_region_held3 (fun w'=>hp w' w.heap.size=some (.cells (cvals c (.slice a1 c.cells.length q1) (.slice a2 c.words.length q2)) 34)∧hp w' (w.heap.size+1)=some (.cells (hvals h) 70))
    (first|(simp [*,go_sem]))
    (first|(go_at_call 133;refine (moved_any _ _ _).mono ?_;rintro _ w2 ⟨rfl,hbw2⟩;have hO2:Onl (Value.slice a1 c.cells.length q1).ownBlock (Value.slice a2 c.words.length q2).ownBlock w w2:=onlT (by (repeat (first|with_reducible assumption|with_reducible refine oA ?_|with_reducible refine oD ?_|((with_reducible refine oX ?_ ?_);rotate_left;(focus ((try dsimp only);(try simp);(try omega))))|((with_reducible refine oS ?_ ?_);rotate_left;(focus ((try dsimp only);(try simp);(try omega))))))) (onlB hbw2);have p1:OCells w2 lo (.slice a1 c.cells.length q1) (turnC c i 0 1 0).cells:=own_below (by exact zO u1 o1) hbw2;have p2:OInts w2 lo (.slice a2 c.words.length q2) c.words:=own_below (by exact zO u2 o2) hbw2;have hsw2:=hbw2.size;(try simp at hsw2);have zz:=q4 hbw2 (b:=w.heap.size);(first|simp [go_sem,z_wppp,z_wpp,z_wp,z_w,l_w,l_wp,l_wpp,l_wppp,k0,k1,k2,k3] at zz|simp [go_sem] at zz|skip);(try clear z_wppp x_wppp f_wppp l_wppp);(try clear z_wpp x_wpp f_wpp l_wpp);(try clear z_wp x_wp f_wp l_wp);(try clear z_w x_w f_w l_w);obtain ⟨z_wppp,z_wpp,z_wp,z_w⟩:=zz;obtain ⟨x_wppp,f_wppp,l_wppp⟩:=bO z_wppp;obtain ⟨x_wpp,f_wpp,l_wpp⟩:=bO z_wpp;obtain ⟨x_wp,f_wp,l_wp⟩:=bO z_wp;obtain ⟨x_w,f_w,l_w⟩:=bO z_w;clear hbw2))
  go_wp2
  try rw [Exit.noGoto_ret]
  refine bodyPost_ret (res_cct Tryz.results155 rfl (ldChan c (.slice a1 c.cells.length q1) (.slice a2 c.words.length q2) (by simp [go_sem, *] <;> rfl)) rfl (ldHand { h with pos:=18 } (by simp [go_sem, *] <;> first|rfl|simp [hci]))) rfl ⟨⟨_,_,rfl,?_,?_,fresh_refl _ _,fresh_refl _ _⟩,by (repeat (first|with_reducible assumption|with_reducible refine oA ?_|with_reducible refine oD ?_|((with_reducible refine oX ?_ ?_);rotate_left;(focus ((try dsimp only);(try simp);(try omega))))|((with_reducible refine oS ?_ ?_);rotate_left;(focus ((try dsimp only);(try simp);(try omega))))))⟩
  · exact zO p1 o1
  · exact zO p2 o2
set_option maxRecDepth 100000 in
set_option maxHeartbeats 2000000 in
theorem growTouch_20 (c:Ch) (h:Ha) (v1 v2:Value) (lo:Nat) (w:World) (h1:OCells w lo v1 c.cells) (h2:OInts w lo v2 c.words) (hc:chanOk c=true) (hlo:lo≤w.heap.size) (hk:(h.code != 2)=false) (hq:(h.pos == 20)=true) :
    Calls Tryz.prog 155 #[.agg (cvals c v1 v2),.agg (hvals h)] w fun r w'=>StepO w w' lo v1 v2 (wkS c { h with pos:=21 } { h with pos:=22 }) r:=by
  have T0:=fun W a b hl=>woken_any c { h with pos:=21 } { h with pos:=22 } v1 v2 lo W a b hc hl
  change ∀ W,_→_→_→Calls _ _ _ _ (fun r w'=>StepB W w' lo v1 v2 (wkS c { h with pos:=21 } { h with pos:=22 }) r) at T0
  clear hc
  have n16:(h.pos == 16)=false:=by simp at hq ⊢;omega
  have n17:(h.pos == 17)=false:=by simp at hq ⊢;omega
  have n18:(h.pos == 18)=false:=by simp at hq ⊢;omega
  have n19:(h.pos == 19)=false:=by simp at hq ⊢;omega
  generalize wkS c { h with pos:=21 } { h with pos:=22 }=x at *
  have b1:=fun j (hj:v1.ownBlock=some j)=>(h1.lt j hj).2
  have b2:=fun j (hj:v2.ownBlock=some j)=>(h2.lt j hj).2
  obtain ⟨a1,q1,rfl,_⟩:=h1.seg
  obtain ⟨a2,q2,rfl,_⟩:=h2.seg
  have O1:=Lib.hid h1
  have O2:=Lib.hid h2
  clear h1 h2
  have T:=Lib.hid T0
  clear T0
  have o1:=O1.out
  have o2:=O2.out
  go_enter Tryz.func155,Tryz.ntmps155
  go_wp2
  go_step3
  go_wp2
  go_step3
  go_wp2
  refine wp_loop_rounds 2 ?_
  rw [rounds_succ]
  go_upto_region 30 with fail
  refine wp_region_inv [[],[],[1],[],[3],[0,1,2,3,4],[0,1,2,3,4,5],[0,1,2,3,4,5],[0,1,2,3,4,5],[0,1,2,3,4,5,6],[0,1,2,3,4,5,7],[0,1,2,3,4,5,8]] [99,100,101,102,103,104,105,106,107,6] (fun l s wx=>(Onl (Value.slice a1 c.cells.length q1).ownBlock (Value.slice a2 c.words.length q2).ownBlock w wx)∧(w.heap.size+1+1+1+1≤wx.heap.size)∧(hp wx w.heap.size=some (.cells (cvals c (.slice a1 c.cells.length q1) (.slice a2 c.words.length q2)) 34))∧(hp wx (w.heap.size+1)=some (.cells (hvals h) 70))∧(hp wx (w.heap.size+1+1)=some (.cells (cond (l 9) (cvals x.1 (s 1003) (s 1004)) (cvals Ch.zero (.slice none 0 0) (.slice none 0 0))) 34))∧(hp wx (w.heap.size+1+1+1)=some (.cells (cond (l 10) (hvals x.2.1) (hvals Ha.zero)) 70))∧(l 5=false→OCells wx lo (.slice a1 c.cells.length q1) c.cells)∧(l 5=false→OInts wx lo (.slice a2 c.words.length q2) c.words)∧(l 0=true→s 99=.agg (cvals c (.slice a1 c.cells.length q1) (.slice a2 c.words.length q2)))∧(l 1=true→s 100=.agg (hvals h))∧(l 2=true→s 101=.agg (hvals ({ h with pos:=21 })))∧(l 3=true→s 102=.agg (hvals h))∧(l 4=true→s 103=.agg (hvals ({ h with pos:=22 })))∧(l 5=true→s 104=.tuple #[.agg (cvals x.1 (s 1003) (s 1004)),.agg (hvals x.2.1),.bool x.2.2]∧OCells wx lo (s 1003) x.1.cells∧OInts wx lo (s 1004) x.1.words∧Fresh w (.slice a1 c.cells.length q1) (s 1003)∧Fresh w (.slice a2 c.words.length q2) (s 1004))∧(l 6=true→s 105=.agg (cvals x.1 (s 1003) (s 1004)))∧(l 7=true→s 106=.agg (hvals x.2.1))∧(l 8=true→s 107=.bool x.2.2)∧(l 11=true→s 6=.bool x.2.2)) (by kernel_rfl) (by kernel_rfl) (by kernel_rfl) (fun s=>by (simp only [fill,fillA,List.setIfInBounds_toArray,List.set_cons_zero,List.set_cons_succ];rfl)) (fun s=>⟨onlB (by exact zB),by simp,by simp [go_sem, *],by simp [go_sem, *],by simp [go_sem, *],by simp [go_sem, *],fun _=>by exact zO o1 o1,fun _=>by exact zO o2 o2,nB,nB,nB,nB,nB,nB,nB,nB,nB,nB⟩) ?_ ?_
  refine ⟨?_,?_,?_,?_,?_,?_,?_,?_,?_,?_,?_,?_,trivial⟩;rotate_left 12
  · intro l s wx hall hf
    have hO:=hf.1
    have z1:=hf.2.2.2.2.1
    have z2:=(jC hf).2.1
    rw [hall 9 rfl] at z1
    rw [hall 10 rfl] at z2
    dsimp only [cond] at z1 z2
    obtain ⟨_,X1,X2,F1,F2⟩:=((jC (jD hf)).2.1 (hall 5 rfl))
    have ec:=((jE hf).2 (hall 11 rfl))
    simp only [ec]
    clear ec hf hall
    go_wp2
    try rw [Exit.noGoto_ret]
    exact bodyPost_ret (res_cct Tryz.results155 rfl (ldChan x.1 _ _ z1) rfl (ldHand x.2.1 z2)) rfl ⟨⟨_,_,rfl,X1,X2,F1,F2⟩,hO⟩
  · intro l s wx hl hd hn hf0 K hK
    have hf:=Lib.hid hf0
    clear hf0
    have zc:=hf.out.2.2.1
    go_simp
    refine hK.out (upd s 99 (.agg (cvals c (.slice a1 c.cells.length q1) (.slice a2 c.words.length q2)))) _ _ (by simp [upd_at] <;> rfl) (kD (kX (fun _=>rfl) id) hf.out)
  · intro l s wx hl hd hn hf0 K hK
    have hf:=Lib.hid hf0
    clear hf0
    have zh:=hf.out.2.2.2.1
    go_simp
    refine hK.out (upd s 100 (.agg (hvals h))) _ _ (by simp [upd_at] <;> rfl) (kD (kA (kX (fun _=>rfl) id)) hf.out)
  · intro l s wx hl hd hn hf0 K hK
    have hf:=Lib.hid hf0
    clear hf0
    have e1:=((jD hf.out).2.1 (hd 1 rfl))
    go_simp
    go_at_call 133
    refine (moved_any h 21 _).mono ?_
    rintro _ wy ⟨rfl,hE⟩
    refine hK.out (upd s 101 (.agg (hvals ({ h with pos:=21 })))) _ _ (by simp [upd_at,e1] <;> rfl) (kX (onlT hf.out.1 (onlB hE)) (kX (Nat.le_trans hf.out.2.1 (Below.size hE)) (kX (hpS hf.out.2.2.1 hE) (kX (hpS hf.out.2.2.2.1 hE) (kX (hpS hf.out.2.2.2.2.1 hE) (kX (hpS (jC hf.out).2.1 hE) (kX (fun h9=>own_below ((jC hf.out).2.2.1 h9) hE) (kX (fun h9=>own_below ((jC hf.out).2.2.2.1 h9) hE) (kB (kX (fun _=>rfl) (kB (kX (nU (hn 5 rfl)) (kX (nU (hn 6 rfl)) (kX (nU (hn 7 rfl)) (kX (nU (hn 8 rfl)) (fun _=>nU (hn 11 rfl)))))))))))))))) hf.out)
  · intro l s wx hl hd hn hf0 K hK
    have hf:=Lib.hid hf0
    clear hf0
    have zh:=hf.out.2.2.2.1
    go_simp
    refine hK.out (upd s 102 (.agg (hvals h))) _ _ (by simp [upd_at] <;> rfl) (kD (kB (kA (kX (fun _=>rfl) id))) hf.out)
  · intro l s wx hl hd hn hf0 K hK
    have hf:=Lib.hid hf0
    clear hf0
    have e3:=((jD hf.out).2.2.2.1 (hd 3 rfl))
    go_simp
    go_at_call 133
    refine (moved_any h 22 _).mono ?_
    rintro _ wy ⟨rfl,hE⟩
    refine hK.out (upd s 103 (.agg (hvals ({ h with pos:=22 })))) _ _ (by simp [upd_at,e3] <;> rfl) (kX (onlT hf.out.1 (onlB hE)) (kX (Nat.le_trans hf.out.2.1 (Below.size hE)) (kX (hpS hf.out.2.2.1 hE) (kX (hpS hf.out.2.2.2.1 hE) (kX (hpS hf.out.2.2.2.2.1 hE) (kX (hpS (jC hf.out).2.1 hE) (kX (fun h9=>own_below ((jC hf.out).2.2.1 h9) hE) (kX (fun h9=>own_below ((jC hf.out).2.2.2.1 h9) hE) (kC (kX (fun _=>rfl) (kX (nU (hn 5 rfl)) (kX (nU (hn 6 rfl)) (kX (nU (hn 7 rfl)) (kX (nU (hn 8 rfl)) (fun _=>nU (hn 11 rfl))))))))))))))) hf.out)
  · intro l s wx hl hd hn hf0 K hK
    have hf:=Lib.hid hf0
    clear hf0
    have e0:=((jD hf.out).1 (hd 0 rfl))
    have e2:=((jD hf.out).2.2.1 (hd 2 rfl))
    have e4:=((jC (jD hf.out)).1 (hd 4 rfl))
    go_simp
    go_at_call 135
    refine (T.out _ ((jC hf.out).2.2.1 hl) ((jC hf.out).2.2.2.1 hl) (Nat.le_trans hlo hf.out.1.2.2.2.1)).mono ?_
    rintro _ wy ⟨⟨y1,y2,rfl,X1,X2,F1,F2⟩,hE⟩
    have hO:=onlB (a:=(Value.slice a1 c.cells.length q1).ownBlock) (b:=(Value.slice a2 c.words.length q2).ownBlock) hE
    refine hK.out (upd (upd (upd s 1003 (y1)) 1004 (y2)) 104 (.tuple #[.agg (cvals x.1 y1 y2),.agg (hvals x.2.1),.bool x.2.2])) _ _ (by simp [upd_at,e0,e2,e4] <;> rfl) (kX (onlT hf.out.1 hO) (kX (Nat.le_trans hf.out.2.1 hO.2.2.2.1) (kX (hp_onl hf.out.2.2.1 hO ((jC hf.out).2.2.1 hl) ((jC hf.out).2.2.2.1 hl) (by decide) (by decide)) (kX (hp_onl hf.out.2.2.2.1 hO ((jC hf.out).2.2.1 hl) ((jC hf.out).2.2.2.1 hl) (by decide) (by decide)) (kX (by (have ee:l 9=false:=hn 9 rfl);(have F:=hf.out.2.2.2.2.1);rw [ee] at F;rw [show upd l 5 true 9=false from ee];exact hp_onl F hO ((jC hf.out).2.2.1 hl) ((jC hf.out).2.2.2.1 hl) (by decide) (by decide)) (kX (by (have ee:l 10=false:=hn 10 rfl);(have F:=(jC hf.out).2.1);rw [ee] at F;rw [show upd l 5 true 10=false from ee];exact hp_onl F hO ((jC hf.out).2.2.1 hl) ((jC hf.out).2.2.2.1 hl) (by decide) (by decide)) (kX (fun h9=>nU h9 (show upd l 5 true 5=true from rfl)) (kX (fun h9=>nU h9 (show upd l 5 true 5=true from rfl)) (kC (kA (kX (fun _=>⟨rfl,X1,X2,fun j hj=>(F1 j hj).imp id (fun h=>Nat.le_trans hf.out.1.2.2.2.1 h),fun j hj=>(F2 j hj).imp id (fun h=>Nat.le_trans hf.out.1.2.2.2.1 h)⟩) (kX (nU (hn 6 rfl)) (kX (nU (hn 7 rfl)) (kX (nU (hn 8 rfl)) (fun _=>nU (hn 11 rfl))))))))))))))) hf.out)
  · intro l s wx hl hd hn hf0 K hK
    have hf:=Lib.hid hf0
    clear hf0
    have e5:=((jC (jD hf.out)).2.1 (hd 5 rfl)).1
    go_simp
    refine hK.out (upd s 105 (.agg (cvals x.1 (s 1003) (s 1004)))) _ _ (by simp [upd_at,e5] <;> rfl) (kD (kC (kB (kX (fun _=>rfl) id))) hf.out)
  · intro l s wx hl hd hn hf0 K hK
    have hf:=Lib.hid hf0
    clear hf0
    have e5:=((jC (jD hf.out)).2.1 (hd 5 rfl)).1
    go_simp
    refine hK.out (upd s 106 (.agg (hvals x.2.1))) _ _ (by simp [upd_at,e5] <;> rfl) (kD (kC (kB (kA (kX (fun _=>rfl) id)))) hf.out)
  · intro l s wx hl hd hn hf0 K hK
    have hf:=Lib.hid hf0
    clear hf0
    have e5:=((jC (jD hf.out)).2.1 (hd 5 rfl)).1
    go_simp
    refine hK.out (upd s 107 (.bool x.2.2)) _ _ (by simp [upd_at,e5] <;> rfl) (kE (kX (fun _=>rfl) id) hf.out)
  · intro l s wx hl hd hn hf0 K hK
    have hf:=Lib.hid hf0
    clear hf0
    have e6:=((jC (jD hf.out)).2.2.1 (hd 6 rfl))
    have e5:=((jC (jD hf.out)).2.1 (hd 5 rfl))
    have X1:=e5.2.1
    have X2:=e5.2.2.1
    clear e5
    have zr:=hf.out.2.2.2.2.1
    rw [hl] at zr
    dsimp only [cond] at zr
    obtain ⟨xa,xp,ea,_⟩:=X1.seg
    obtain ⟨xb,xq,eb2,_⟩:=X2.seg
    rw [ea,eb2] at e6
    have zn:hp (setBox wx (w.heap.size+1+1) (cvals x.1 (.slice xa x.1.cells.length xp) (.slice xb x.1.words.length xq))) (w.heap.size+1+1)=some (.cells (cvals x.1 (s 1003) (s 1004)) 34):=by rw [ea,eb2];exact hp_set zr
    have hO:=hf.out.1
    go_simp
    refine hK.out (s) _ _ (by simp [upd_at,e6,ea,eb2] <;> rfl) (kX (oX hO (by omega)) (kX (Nat.le_trans hf.out.2.1 (Nat.le_of_eq bx_size.symm)) (kX ((bx_heap_ne (by omega)).trans hf.out.2.2.1) (kX ((bx_heap_ne (by omega)).trans hf.out.2.2.2.1) (kX (zn) (kX ((bx_heap_ne (by omega)).trans (jC hf.out).2.1) (kX (fun h9=>nU h9 (show upd l 9 true 5=true from hd 5 rfl)) (kX (fun h9=>nU h9 (show upd l 9 true 5=true from hd 5 rfl)) (kC (kA (kX (fun h=>(let ⟨e,X1,X2,F1,F2⟩:=(jC (jD hf.out)).2.1 h;⟨e,own_far X1 zr (by decide),own_far X2 zr (by decide),F1,F2⟩)) id)))))))))) hf.out)
  · intro l s wx hl hd hn hf0 K hK
    have hf:=Lib.hid hf0
    clear hf0
    have e7:=((jC (jD hf.out)).2.2.2.1 (hd 7 rfl))
    have e5:=((jC (jD hf.out)).2.1 (hd 5 rfl))
    have X1:=e5.2.1
    have X2:=e5.2.2.1
    clear e5
    have zr:=(jC hf.out).2.1
    rw [hl] at zr
    dsimp only [cond] at zr
    have zn:hp (setBox wx (w.heap.size+1+1+1) (hvals x.2.1)) (w.heap.size+1+1+1)=some (.cells (hvals x.2.1) 70):=by exact hp_set zr
    have hO:=hf.out.1
    go_simp
    refine hK.out (s) _ _ (by simp [upd_at,e7] <;> rfl) (kX (oX hO (by omega)) (kX (Nat.le_trans hf.out.2.1 (Nat.le_of_eq bx_size.symm)) (kX ((bx_heap_ne (by omega)).trans hf.out.2.2.1) (kX ((bx_heap_ne (by omega)).trans hf.out.2.2.2.1) (kX ((bx_heap_ne (by omega)).trans hf.out.2.2.2.2.1) (kX (zn) (kX (fun h9=>nU h9 (show upd l 10 true 5=true from hd 5 rfl)) (kX (fun h9=>nU h9 (show upd l 10 true 5=true from hd 5 rfl)) (kC (kA (kX (fun h=>(let ⟨e,X1,X2,F1,F2⟩:=(jC (jD hf.out)).2.1 h;⟨e,own_far X1 zr (by decide),own_far X2 zr (by decide),F1,F2⟩)) id)))))))))) hf.out)
  · intro l s wx hl hd hn hf0 K hK
    have hf:=Lib.hid hf0
    clear hf0
    have e8:=((jE hf.out).1 (hd 8 rfl))
    go_simp
    refine hK.out (upd s 6 (.bool x.2.2)) _ _ (by simp [upd_at,e8] <;> rfl) (kE (kA (fun _=>fun _=>rfl)) hf.out)
set_option maxRecDepth 100000 in
set_option maxHeartbeats 2000000 in
theorem growTouch_21 (c:Ch) (h:Ha) (v1 v2:Value) (lo:Nat) (w:World) (h1:OCells w lo v1 c.cells) (h2:OInts w lo v2 c.words) (hc0:0≤h.grow) (hc1:h.grow<c.cells.length) (hcall:callOk h.code h.elem=true) (hnx:0≤h.nxt∧h.nxt≤2) (hq:(h.pos == 21)=true) (hk:(h.code != 2)=false) :
    Calls Tryz.prog 155 #[.agg (cvals c v1 v2),.agg (hvals h)] w fun r w'=>StepO w w' lo v1 v2 ((stateC c h.grow 2,grown8 h,true)) r:=by
  have n16:(h.pos == 16)=false:=by simp at hq ⊢;omega
  have n17:(h.pos == 17)=false:=by simp at hq ⊢;omega
  have n18:(h.pos == 18)=false:=by simp at hq ⊢;omega
  have n19:(h.pos == 19)=false:=by simp at hq ⊢;omega
  have n20:(h.pos == 20)=false:=by simp at hq ⊢;omega
  obtain ⟨i,hci⟩:∃ i:Nat,h.grow=(i:Int):=⟨h.grow.toNat,by omega⟩
  have hi:i<c.cells.length:=by omega
  have hi0:(0:Int)≤(i:Int):=by omega
  have hi1:(i:Int)<(c.cells.length:Int):=by omega
  have hne:=h1.ne h2
  obtain ⟨a2,q2,rfl,_⟩:=h2.seg
  obtain ⟨g,q1,rfl,hlo1,hlt,hcell,hfr⟩:=h1.open1 hi
  have O1:=Lib.hid h1
  have O2:=Lib.hid h2
  have lg0:g<w.heap.size+1:=by omega
  have lg1:g<w.heap.size+1+1:=by omega
  have lg2:g<w.heap.size+1+1+1:=by omega
  have ng0:g≠w.heap.size:=by omega
  have ng1:g≠w.heap.size+1:=by omega
  have ng2:g≠w.heap.size+1+1:=by omega
  have ng3:g≠w.heap.size+1+1+1:=by omega
  have mg0:w.heap.size≠g:=by omega
  have mg1:w.heap.size+1≠g:=by omega
  have mg2:w.heap.size+1+1≠g:=by omega
  have mg3:w.heap.size+1+1+1≠g:=by omega
  have hx:Hid (cellAt c h.grow=c.cells.getD i ⟨0,0,0⟩):=by simp [cellAt,Hid,hci]
  have c0:=hcell 0 (by omega)
  have c1:=hcell 1 (by omega)
  have c2:=hcell 2 (by omega)
  simp only [C3.val,Nat.add_zero] at c0 c1 c2
  rw [show stateC c h.grow 2=stateC c i 2 by rw [hci]]
  have e1:=stateC_cells c i 2
  have P1:=fun W (o:OCells W lo (.slice (some ⟨g,0,none⟩) c.cells.length q1) c.cells)=>OCells.setS o hi 2
  rw [← e1] at P1
  clear hx hcell h1 h2 e1
  generalize c.cells.getD i ⟨0,0,0⟩=x at *
  have o1:=O1.out
  have o2:=O2.out
  obtain ⟨y0,hy0⟩:∃ y0,grown8 h=y0:=⟨_,rfl⟩
  have GR:=Lib.hid fun W=>grown_any h W hcall hnx
  rw [hy0] at GR
  rw [hy0]
  clear hy0 hcall hnx
  go_enter Tryz.func155,Tryz.ntmps155
  go_wp2
  go_step3
  go_wp2
  go_step3
  go_wp2
  refine wp_loop_rounds 2 ?_
  rw [rounds_succ]
  have P2:=own_store (p:=⟨g,i*3,none⟩) o2 (hne g rfl) (.int .i64 2)
  go_wp2_with fail
  rw [rounds_succ]
  go_wp2_with fail
  go_region_held3 (fun w'=>hp w' w.heap.size=some (.cells (cvals c (.slice (some ⟨g,0,none⟩) c.cells.length q1) (.slice a2 c.words.length q2)) 34)∧hp w' (w.heap.size+1)=some (.cells (hvals h) 70))
    (first|(simp [*,go_sem]))
    (first|(go_at_call 158;refine (GR.out _).mono ?_;rintro _ w1 ⟨rfl,hbw1⟩;have hGw1:Gr g w w1:=gT (by (repeat (first|with_reducible assumption|with_reducible exact gR _ _|with_reducible refine gA ?_|with_reducible refine gD ?_|with_reducible refine gS ?_ (.inl rfl)|((with_reducible refine gBx ?_ (.inr ?_));rotate_left;(focus ((try dsimp only);(try simp);(try omega))))|((with_reducible refine gS ?_ (.inr ?_));rotate_left;(focus ((try dsimp only);(try simp);(try omega))))))) (gOfB hbw1);have hsw1:=hbw1.size;(try (simp at hsw1));have zz:=hQ hbw1 (b:=w.heap.size);(first|(simp [go_sem,z_w,l_w,hlt,lg0,lg1,lg2] at zz)|(simp [go_sem,hlt,lg0,lg1,lg2] at zz));(try clear x_w f_w);(try clear z_w);have z_w:=zz;clear zz;(try clear l_w);obtain ⟨x_w,f_w,l_w⟩:=bO z_w;have zz:=hQ hbw1 (b:=w.heap.size+1);(first|(simp [go_sem,z_wp,l_wp,hlt,lg0,lg1,lg2] at zz)|(simp [go_sem,hlt,lg0,lg1,lg2] at zz));(try clear x_wp f_wp);(try clear z_wp);have z_wp:=zz;clear zz;(try clear l_wp);obtain ⟨x_wp,f_wp,l_wp⟩:=bO z_wp;have zz:=hQ hbw1 (b:=w.heap.size+1+1);(first|(simp [go_sem,z_wpp,l_wpp,hlt,lg0,lg1,lg2] at zz)|(simp [go_sem,hlt,lg0,lg1,lg2] at zz));(try clear x_wpp f_wpp);(try clear z_wpp);have z_wpp:=zz;clear zz;(try clear l_wpp);obtain ⟨x_wpp,f_wpp,l_wpp⟩:=bO z_wpp;have zz:=hQ hbw1 (b:=w.heap.size+1+1+1);(first|(simp [go_sem,z_wppp,l_wppp,hlt,lg0,lg1,lg2] at zz)|(simp [go_sem,hlt,lg0,lg1,lg2] at zz));(try clear x_wppp f_wppp);(try clear z_wppp);have z_wppp:=zz;clear zz;(try clear l_wppp);obtain ⟨x_wppp,f_wppp,l_wppp⟩:=bO z_wppp;have p1:OCells w1 lo (.slice (some ⟨g,0,none⟩) c.cells.length q1) (stateC c i 2).cells:=own_below (by exact zO (P1 _ o1) o1) hbw1;have p2:OInts w1 lo (.slice a2 c.words.length q2) c.words:=own_below (by exact zO P2 o2) hbw1))
  go_wp2
  try rw [Exit.noGoto_ret]
  refine bodyPost_ret (res_cct Tryz.results155 rfl (ldChan (stateC c i 2) (.slice (some ⟨g,0,none⟩) c.cells.length q1) (.slice a2 c.words.length q2) (by simp [go_sem, *] <;> rfl)) rfl (ldHand y0 (by simp [go_sem, *] <;> first|rfl|simp [hci]))) rfl ⟨⟨_,_,rfl,?_,?_,fresh_refl _ _,fresh_refl _ _⟩,onl1 (show w.grownBy _ (some g) from (by (repeat (first|with_reducible assumption|with_reducible exact gR _ _|with_reducible refine gA ?_|with_reducible refine gD ?_|with_reducible refine gS ?_ (.inl rfl)|((with_reducible refine gBx ?_ (.inr ?_));rotate_left;(focus ((try dsimp only);(try simp);(try omega))))|((with_reducible refine gS ?_ (.inr ?_));rotate_left;(focus ((try dsimp only);(try simp);(try omega))))))))⟩
  · show OCells _ lo (.slice (some ⟨g,0,none⟩) c.cells.length q1) (stateC c i 2).cells
    exact zO p1 o1
  · show OInts _ lo (.slice a2 c.words.length q2) c.words
    exact zO p2 o2
set_option maxRecDepth 100000 in
set_option maxHeartbeats 2000000 in
theorem growTouch_22 (c:Ch) (h:Ha) (v1 v2:Value) (lo:Nat) (w:World) (h1:OCells w lo v1 c.cells) (h2:OInts w lo v2 c.words) (hc0:0≤h.grow) (hc1:h.grow<c.cells.length) (hq:(h.pos == 22)=true) (hk:(h.code != 2)=false) :
    Calls Tryz.prog 155 #[.agg (cvals c v1 v2),.agg (hvals h)] w fun r w'=>StepO w w' lo v1 v2 ((stateC c h.grow 9,{ h with pos:=16 },true)) r:=by
  have n16:(h.pos == 16)=false:=by simp at hq ⊢;omega
  have n17:(h.pos == 17)=false:=by simp at hq ⊢;omega
  have n18:(h.pos == 18)=false:=by simp at hq ⊢;omega
  have n19:(h.pos == 19)=false:=by simp at hq ⊢;omega
  have n20:(h.pos == 20)=false:=by simp at hq ⊢;omega
  have n21:(h.pos == 21)=false:=by simp at hq ⊢;omega
  obtain ⟨i,hci⟩:∃ i:Nat,h.grow=(i:Int):=⟨h.grow.toNat,by omega⟩
  have hi:i<c.cells.length:=by omega
  have hi0:(0:Int)≤(i:Int):=by omega
  have hi1:(i:Int)<(c.cells.length:Int):=by omega
  have hne:=h1.ne h2
  obtain ⟨a2,q2,rfl,_⟩:=h2.seg
  obtain ⟨g,q1,rfl,hlo1,hlt,hcell,hfr⟩:=h1.open1 hi
  have O1:=Lib.hid h1
  have O2:=Lib.hid h2
  have lg0:g<w.heap.size+1:=by omega
  have lg1:g<w.heap.size+1+1:=by omega
  have lg2:g<w.heap.size+1+1+1:=by omega
  have ng0:g≠w.heap.size:=by omega
  have ng1:g≠w.heap.size+1:=by omega
  have ng2:g≠w.heap.size+1+1:=by omega
  have ng3:g≠w.heap.size+1+1+1:=by omega
  have mg0:w.heap.size≠g:=by omega
  have mg1:w.heap.size+1≠g:=by omega
  have mg2:w.heap.size+1+1≠g:=by omega
  have mg3:w.heap.size+1+1+1≠g:=by omega
  have hx:Hid (cellAt c h.grow=c.cells.getD i ⟨0,0,0⟩):=by simp [cellAt,Hid,hci]
  have c0:=hcell 0 (by omega)
  have c1:=hcell 1 (by omega)
  have c2:=hcell 2 (by omega)
  simp only [C3.val,Nat.add_zero] at c0 c1 c2
  rw [show stateC c h.grow 9=stateC c i 9 by rw [hci]]
  have e1:=stateC_cells c i 9
  have P1:=fun W (o:OCells W lo (.slice (some ⟨g,0,none⟩) c.cells.length q1) c.cells)=>OCells.setS o hi 9
  rw [← e1] at P1
  clear hx hcell h1 h2 e1
  generalize c.cells.getD i ⟨0,0,0⟩=x at *
  have o1:=O1.out
  have o2:=O2.out
  go_enter Tryz.func155,Tryz.ntmps155
  go_wp2
  go_step3
  go_wp2
  go_step3
  go_wp2
  refine wp_loop_rounds 2 ?_
  rw [rounds_succ]
  have P2:=own_store (p:=⟨g,i*3,none⟩) o2 (hne g rfl) (.int .i64 9)
  go_wp2_with fail
  go_region_held3 (fun w'=>hp w' w.heap.size=some (.cells (cvals c (.slice (some ⟨g,0,none⟩) c.cells.length q1) (.slice a2 c.words.length q2)) 34)∧hp w' (w.heap.size+1)=some (.cells (hvals h) 70))
    (first|(simp [*,go_sem]))
    (first|(go_at_call 133;refine (moved_any _ _ _).mono ?_;rintro _ w1 ⟨rfl,hbw1⟩;have hGw1:Gr g w w1:=gT (by (repeat (first|with_reducible assumption|with_reducible exact gR _ _|with_reducible refine gA ?_|with_reducible refine gD ?_|with_reducible refine gS ?_ (.inl rfl)|((with_reducible refine gBx ?_ (.inr ?_));rotate_left;(focus ((try dsimp only);(try simp);(try omega))))|((with_reducible refine gS ?_ (.inr ?_));rotate_left;(focus ((try dsimp only);(try simp);(try omega))))))) (gOfB hbw1);have hsw1:=hbw1.size;(try (simp at hsw1));have zz:=hQ hbw1 (b:=w.heap.size);(first|(simp [go_sem,z_w,l_w,hlt,lg0,lg1,lg2] at zz)|(simp [go_sem,hlt,lg0,lg1,lg2] at zz));(try clear x_w f_w);(try clear z_w);have z_w:=zz;clear zz;(try clear l_w);obtain ⟨x_w,f_w,l_w⟩:=bO z_w;have zz:=hQ hbw1 (b:=w.heap.size+1);(first|(simp [go_sem,z_wp,l_wp,hlt,lg0,lg1,lg2] at zz)|(simp [go_sem,hlt,lg0,lg1,lg2] at zz));(try clear x_wp f_wp);(try clear z_wp);have z_wp:=zz;clear zz;(try clear l_wp);obtain ⟨x_wp,f_wp,l_wp⟩:=bO z_wp;have zz:=hQ hbw1 (b:=w.heap.size+1+1);(first|(simp [go_sem,z_wpp,l_wpp,hlt,lg0,lg1,lg2] at zz)|(simp [go_sem,hlt,lg0,lg1,lg2] at zz));(try clear x_wpp f_wpp);(try clear z_wpp);have z_wpp:=zz;clear zz;(try clear l_wpp);obtain ⟨x_wpp,f_wpp,l_wpp⟩:=bO z_wpp;have zz:=hQ hbw1 (b:=w.heap.size+1+1+1);(first|(simp [go_sem,z_wppp,l_wppp,hlt,lg0,lg1,lg2] at zz)|(simp [go_sem,hlt,lg0,lg1,lg2] at zz));(try clear x_wppp f_wppp);(try clear z_wppp);have z_wppp:=zz;clear zz;(try clear l_wppp);obtain ⟨x_wppp,f_wppp,l_wppp⟩:=bO z_wppp;have p1:OCells w1 lo (.slice (some ⟨g,0,none⟩) c.cells.length q1) (stateC c i 9).cells:=own_below (by exact zO (P1 _ o1) o1) hbw1;have p2:OInts w1 lo (.slice a2 c.words.length q2) c.words:=own_below (by exact zO P2 o2) hbw1))
  go_wp2
  try rw [Exit.noGoto_ret]
  refine bodyPost_ret (res_cct Tryz.results155 rfl (ldChan (stateC c i 9) (.slice (some ⟨g,0,none⟩) c.cells.length q1) (.slice a2 c.words.length q2) (by simp [go_sem, *] <;> rfl)) rfl (ldHand { h with pos:=16 } (by simp [go_sem, *] <;> first|rfl|simp [hci]))) rfl ⟨⟨_,_,rfl,?_,?_,fresh_refl _ _,fresh_refl _ _⟩,onl1 (show w.grownBy _ (some g) from (by (repeat (first|with_reducible assumption|with_reducible exact gR _ _|with_reducible refine gA ?_|with_reducible refine gD ?_|with_reducible refine gS ?_ (.inl rfl)|((with_reducible refine gBx ?_ (.inr ?_));rotate_left;(focus ((try dsimp only);(try simp);(try omega))))|((with_reducible refine gS ?_ (.inr ?_));rotate_left;(focus ((try dsimp only);(try simp);(try omega))))))))⟩
  · show OCells _ lo (.slice (some ⟨g,0,none⟩) c.cells.length q1) (stateC c i 9).cells
    exact zO p1 o1
  · show OInts _ lo (.slice a2 c.words.length q2) c.words
    exact zO p2 o2
set_option maxRecDepth 100000 in
set_option maxHeartbeats 2000000 in
theorem growTouch_no (c:Ch) (h:Ha) (v1 v2:Value) (lo:Nat) (w:World) (h1:OCells w lo v1 c.cells) (h2:OInts w lo v2 c.words) (hk:(h.code != 2)=true) :
    Calls Tryz.prog 155 #[.agg (cvals c v1 v2),.agg (hvals h)] w fun r w'=>StepO w w' lo v1 v2 (nothing) r:=by
  have T:=Lib.hid fun W=>refused_any W lo v1 v2
  generalize nothing=x at *
  have b1:=fun j (hj:v1.ownBlock=some j)=>(h1.lt j hj).2
  have b2:=fun j (hj:v2.ownBlock=some j)=>(h2.lt j hj).2
  have m1:∀ j,w.heap.size≤j→some j≠v1.ownBlock:=fun j hj e=>by have:=b1 _ e.symm;omega
  have m2:∀ j,w.heap.size≤j→some j≠v2.ownBlock:=fun j hj e=>by have:=b2 _ e.symm;omega
  have m10:=m1 (w.heap.size) (by omega)
  have m20:=m2 (w.heap.size) (by omega)
  have m11:=m1 (w.heap.size+1) (by omega)
  have m21:=m2 (w.heap.size+1) (by omega)
  have m12:=m1 (w.heap.size+1+1) (by omega)
  have m22:=m2 (w.heap.size+1+1) (by omega)
  have m13:=m1 (w.heap.size+1+1+1) (by omega)
  have m23:=m2 (w.heap.size+1+1+1) (by omega)
  have o1:=h1
  have o2:=h2
  obtain ⟨a1,q1,e1,_⟩:=h1.seg
  obtain ⟨a2,q2,e2,_⟩:=h2.seg
  subst e1 e2
  clear h1 h2
  go_enter Tryz.func155,Tryz.ntmps155
  go_wp2
  go_step3
  go_wp2_with fail
  refine (T.out _).mono ?_
  rintro _ w3 ⟨⟨y1,y2,rfl,oY1,oY2,fY1,fY2⟩,hbw3⟩
  have hO3:Onl (Value.slice a1 c.cells.length q1).ownBlock (Value.slice a2 c.words.length q2).ownBlock w w3:=onlT (onlB (by exact zB)) (onlB hbw3)
  have hsw3:=hbw3.size;(try simp at hsw3);have zz:=q4 hbw3 (b:=w.heap.size);(try simp [go_sem] at zz);(try clear z_wppp x_wppp f_wppp l_wppp);(try clear z_wpp x_wpp f_wpp l_wpp);(try clear z_wp x_wp f_wp l_wp);(try clear z_w x_w f_w l_w);obtain ⟨z_wppp,z_wpp,z_wp,z_w⟩:=zz;obtain ⟨x_wppp,f_wppp,l_wppp⟩:=bO z_wppp;obtain ⟨x_wpp,f_wpp,l_wpp⟩:=bO z_wpp;obtain ⟨x_wp,f_wp,l_wp⟩:=bO z_wp;obtain ⟨x_w,f_w,l_w⟩:=bO z_w;clear hbw3
  have hoff1:∀ j,w.heap.size≤j→j<w.heap.size+1+1+1+1→y1.ownBlock≠some j:=fun j h1 h2=>fY1.off b1 h1 (by (try simp) <;> omega);have hoff2:∀ j,w.heap.size≤j→j<w.heap.size+1+1+1+1→y2.ownBlock≠some j:=fun j h1 h2=>fY2.off b2 h1 (by (try simp) <;> omega);have fr1:Fresh w _ y1:=fun j hj=>(fY1 j hj).imp id (fun h=>Nat.le_trans (by (try simp) <;> omega) h);have fr2:Fresh w _ y2:=fun j hj=>(fY2 j hj).imp id (fun h=>Nat.le_trans (by (try simp) <;> omega) h);obtain ⟨ya,yp,rfl,_⟩:=oY1.seg;obtain ⟨yb,yq,rfl,_⟩:=oY2.seg
  go_wp2
  try rw [Exit.noGoto_ret]
  refine bodyPost_ret (res_cct Tryz.results155 rfl (ldChan x.1 (.slice ya x.1.cells.length yp) (.slice yb x.1.words.length yq) (by simp [go_sem, *])) rfl (ldHand x.2.1 (by simp [go_sem, *]))) rfl ⟨⟨_,_,rfl,?_,?_,fr1,fr2⟩,by (repeat (first|with_reducible assumption|with_reducible refine oA ?_|with_reducible refine oD ?_|((with_reducible refine oX ?_ ?_);rotate_left;(focus ((try dsimp only);(try simp);(try omega))))|((with_reducible refine oS ?_ ?_);rotate_left;(focus ((try dsimp only);(try simp);(try omega))))))⟩
  · exact zP oY1 oY1 hoff1
  · exact zP oY2 oY2 hoff2
set_option maxRecDepth 100000 in
set_option maxHeartbeats 2000000 in
theorem growTouch_far (c:Ch) (h:Ha) (v1 v2:Value) (lo:Nat) (w:World) (h1:OCells w lo v1 c.cells) (h2:OInts w lo v2 c.words) (hk:(h.code != 2)=false) (n16:(h.pos == 16)=false) (n17:(h.pos == 17)=false) (n18:(h.pos == 18)=false) (n19:(h.pos == 19)=false) (n20:(h.pos == 20)=false) (n21:(h.pos == 21)=false) (n22:(h.pos == 22)=false) (n26:(h.pos == 26)=false) :
    Calls Tryz.prog 155 #[.agg (cvals c v1 v2),.agg (hvals h)] w fun r w'=>StepO w w' lo v1 v2 (nothing) r:=by
  have T:=Lib.hid fun W=>refused_any W lo v1 v2
  generalize nothing=x at *
  have b1:=fun j (hj:v1.ownBlock=some j)=>(h1.lt j hj).2
  have b2:=fun j (hj:v2.ownBlock=some j)=>(h2.lt j hj).2
  have m1:∀ j,w.heap.size≤j→some j≠v1.ownBlock:=fun j hj e=>by have:=b1 _ e.symm;omega
  have m2:∀ j,w.heap.size≤j→some j≠v2.ownBlock:=fun j hj e=>by have:=b2 _ e.symm;omega
  have m10:=m1 (w.heap.size) (by omega)
  have m20:=m2 (w.heap.size) (by omega)
  have m11:=m1 (w.heap.size+1) (by omega)
  have m21:=m2 (w.heap.size+1) (by omega)
  have m12:=m1 (w.heap.size+1+1) (by omega)
  have m22:=m2 (w.heap.size+1+1) (by omega)
  have m13:=m1 (w.heap.size+1+1+1) (by omega)
  have m23:=m2 (w.heap.size+1+1+1) (by omega)
  have o1:=h1
  have o2:=h2
  obtain ⟨a1,q1,e1,_⟩:=h1.seg
  obtain ⟨a2,q2,e2,_⟩:=h2.seg
  subst e1 e2
  clear h1 h2
  go_enter Tryz.func155,Tryz.ntmps155
  go_wp2
  go_step3
  go_wp2
  go_step3
  go_wp2
  refine wp_loop_rounds 2 ?_
  rw [rounds_succ]
  go_wp2_with fail
  refine (T.out _).mono ?_
  rintro _ w3 ⟨⟨y1,y2,rfl,oY1,oY2,fY1,fY2⟩,hbw3⟩
  have hO3:Onl (Value.slice a1 c.cells.length q1).ownBlock (Value.slice a2 c.words.length q2).ownBlock w w3:=onlT (onlB (by exact zB)) (onlB hbw3)
  have hsw3:=hbw3.size;(try simp at hsw3);have zz:=q4 hbw3 (b:=w.heap.size);(try simp [go_sem] at zz);(try clear z_wppp x_wppp f_wppp l_wppp);(try clear z_wpp x_wpp f_wpp l_wpp);(try clear z_wp x_wp f_wp l_wp);(try clear z_w x_w f_w l_w);obtain ⟨z_wppp,z_wpp,z_wp,z_w⟩:=zz;obtain ⟨x_wppp,f_wppp,l_wppp⟩:=bO z_wppp;obtain ⟨x_wpp,f_wpp,l_wpp⟩:=bO z_wpp;obtain ⟨x_wp,f_wp,l_wp⟩:=bO z_wp;obtain ⟨x_w,f_w,l_w⟩:=bO z_w;clear hbw3
  have hoff1:∀ j,w.heap.size≤j→j<w.heap.size+1+1+1+1→y1.ownBlock≠some j:=fun j h1 h2=>fY1.off b1 h1 (by (try simp) <;> omega);have hoff2:∀ j,w.heap.size≤j→j<w.heap.size+1+1+1+1→y2.ownBlock≠some j:=fun j h1 h2=>fY2.off b2 h1 (by (try simp) <;> omega);have fr1:Fresh w _ y1:=fun j hj=>(fY1 j hj).imp id (fun h=>Nat.le_trans (by (try simp) <;> omega) h);have fr2:Fresh w _ y2:=fun j hj=>(fY2 j hj).imp id (fun h=>Nat.le_trans (by (try simp) <;> omega) h);obtain ⟨ya,yp,rfl,_⟩:=oY1.seg;obtain ⟨yb,yq,rfl,_⟩:=oY2.seg
  go_wp2
  try rw [Exit.noGoto_ret]
  refine bodyPost_ret (res_cct Tryz.results155 rfl (ldChan x.1 (.slice ya x.1.cells.length yp) (.slice yb x.1.words.length yq) (by simp [go_sem, *])) rfl (ldHand x.2.1 (by simp [go_sem, *]))) rfl ⟨⟨_,_,rfl,?_,?_,fr1,fr2⟩,by (repeat (first|with_reducible assumption|with_reducible refine oA ?_|with_reducible refine oD ?_|((with_reducible refine oX ?_ ?_);rotate_left;(focus ((try dsimp only);(try simp);(try omega))))|((with_reducible refine oS ?_ ?_);rotate_left;(focus ((try dsimp only);(try simp);(try omega))))))⟩
  · exact zP oY1 oY1 hoff1
  · exact zP oY2 oY2 hoff2
end Go.Proofs.YtmnpgkcdfielbaaGreat
set_option linter.unusedSimpArgs false
set_option linter.unusedVariables false
namespace Go.Proofs.YtmnpgkcdfielbaaGreat
open Go.RowKit
set_option linter.unusedSimpArgs false
attribute [local simp] bx_size
attribute [local go_sem ↓] zeroHand zeroChan toLHand toLChan toVHand toVChan storeHand storeChan storeHandC storeChanC
theorem fin7_done8 {c:Ch} {h:Ha}:fin7 (c,h,true)=done c h:=rfl
theorem fin7_nothing8:fin7 nothing=nothing:=by simp [fin7,nothing,chanOk,chanHead,Ch.zero]
theorem tellC_no8 {c:Ch} {w word:Int} (h:tellB c w word=false):tellC c w word=c:=by simp [tellC,h]
theorem hand_nxt {h:Ha} (hh:handOk h=true):0≤h.nxt∧h.nxt≤2:=by
  simp only [handOk,handC,Bool.and_eq_true,inB_iff] at hh
  omega
theorem hand_grow8 {h:Ha} (hh:handOk h=true):0≤h.grow∧h.grow≤39:=by
  simp only [handOk,handB,Bool.and_eq_true,inB_iff] at hh
  omega
theorem hand_pos {h:Ha} (hh:handOk h=true):0≤h.pos∧h.pos≤25:=by
  simp only [handOk,handA,Bool.and_eq_true,inB_iff] at hh
  omega
theorem chan_fin8 {c:Ch} (e:chanOk c=true):0≤c.fin∧c.fin≤40:=by
  simp only [chanOk,chanHead,Bool.and_eq_true,inB_iff] at e
  omega
theorem growTouch_any (c:Ch) (h:Ha) (hc:chanOk c=true) (hh:handOk h=true):∃ x:St,growStepP c h=fin7 x∧∀ (v1 v2:Value) (lo:Nat) (W:World),OCells W lo v1 c.cells→OInts W lo v2 c.words→lo≤W.heap.size→Calls Tryz.prog 155 #[.agg (cvals c v1 v2),.agg (hvals h)] W fun r w'=>StepO W w' lo v1 v2 x r:=by
  cases hk:(h.code != 2) with
  | true =>
    have hk2:¬ h.code=2:=by simpa using hk
    have hno:stepOk c h 16 22 2=false:=by simp [stepOk,hk2]
    exact ⟨nothing,by rw [fin7_nothing8];simp [growStepP,growStep,hno],fun v1 v2 lo W o1 o2 _=>growTouch_no c h v1 v2 lo W o1 o2 hk⟩
  | false =>
    have hk2:h.code=2:=by simpa using hk
    have hnx:=hand_nxt hh
    obtain ⟨hc0,hc9⟩:=hand_grow8 hh
    have hc1:h.grow<c.cells.length:=by have:=(chan_len hc).1;omega
    by_cases hr:16≤h.pos∧h.pos≤22
    · have hok:stepOk c h 16 22 2=true:=by
        have:inB h.pos 16 22=true:=by simp [inB];omega
        simp [stepOk,hc,hh,this,hk2]
      have hcall:callOk h.code h.elem=true:=by
        have:=hh
        simp only [handOk,handA,Bool.and_eq_true,inB_iff] at this
        have h0:¬ h.pos=0:=by omega
        simp [h0] at this
        exact this.1.2
      have hps:h.pos=16∨h.pos=17∨h.pos=18∨h.pos=19∨h.pos=20∨h.pos=21∨h.pos=22:=by omega
      rcases hps with hp|hp|hp|hp|hp|hp|hp
      · have hq:(h.pos == 16)=true:=by simpa using hp
        cases hg:(c.cap == 0) with
        | true =>
          refine ⟨(c,grown8 h,true),?_,fun v1 v2 lo W o1 o2 _=>growTouch_16a c h v1 v2 lo W o1 o2 hg hcall hnx hq hk⟩
          simp only [growStepP,growStep,hok,hp,begin8,hg]
          simp [fin7_done8]
        | false =>
          cases hf:(c.fin == 40) with
          | true =>
            refine ⟨(c,grown8 h,true),?_,fun v1 v2 lo W o1 o2 _=>growTouch_16b c h v1 v2 lo W o1 o2 hg hf hcall hnx hq hk⟩
            simp only [growStepP,growStep,hok,hp,begin8,hg,hf]
            simp [fin7_done8]
          | false =>
            refine ⟨({ c with fin:=c.fin+1 },{ h with grow:=c.fin,pos:=17 },true),?_,fun v1 v2 lo W o1 o2 _=>growTouch_16c c h v1 v2 lo W o1 o2 (chan_fin8 hc) hg hf hq hk⟩
            simp only [growStepP,growStep,hok,hp,begin8,hg,hf]
            simp [fin7_done8]
      · have hq:(h.pos == 17)=true:=by simpa using hp
        by_cases hg:c.sent≤h.grow
        · refine ⟨(c,grown8 h,true),?_,fun v1 v2 lo W o1 o2 _=>growTouch_17a c h v1 v2 lo W o1 o2 hg hcall hnx hq hk⟩
          simp [growStepP,growStep,hok,hp,hg,fin7_done8]
        · refine ⟨(c,{ h with pos:=18 },true),?_,fun v1 v2 lo W o1 o2 _=>growTouch_17b c h v1 v2 lo W o1 o2 hg hq hk⟩
          simp [growStepP,growStep,hok,hp,hg,fin7_done8]
      · have hq:(h.pos == 18)=true:=by simpa using hp
        have em:growStepP c h=meetStep c h:=by simp [growStepP,growStep,hok,hp]
        by_cases n5:(cellAt c h.grow).s=5
        · refine ⟨(c,h,false),?_,fun v1 v2 lo W o1 o2 _=>growTouch_18_5 c h v1 v2 lo W o1 o2 hc0 hc1 n5 hq hk⟩
          rw [em]
          simp [meetStep,n5,fin7,hc,hh]
        have ed:growStepP c h=done c (meet8 c h):=by rw [em];simp [meetStep,n5]
        by_cases n0:(cellAt c h.grow).s=0
        · refine ⟨(c,{ seenAs h (cellAt c h.grow) with pos:=19 },true),?_,fun v1 v2 lo W o1 o2 _=>growTouch_18_0 c h v1 v2 lo W o1 o2 hc0 hc1 n0 hq hk⟩
          rw [ed,fin7_done8]
          simp [meet8,n0]
        by_cases n3:(cellAt c h.grow).s=3
        · refine ⟨(c,{ seenAs h (cellAt c h.grow) with pos:=19 },true),?_,fun v1 v2 lo W o1 o2 _=>growTouch_18_3 c h v1 v2 lo W o1 o2 hc0 hc1 n3 hq hk⟩
          rw [ed,fin7_done8]
          simp [meet8,n3]
        by_cases n9:(cellAt c h.grow).s=9
        · refine ⟨(c,{ seenAs h (cellAt c h.grow) with pos:=16 },true),?_,fun v1 v2 lo W o1 o2 _=>growTouch_18_9 c h v1 v2 lo W o1 o2 hc0 hc1 n9 hq hk⟩
          rw [ed,fin7_done8]
          simp [meet8,n9]
        · refine ⟨(c,grown8 (seenAs h (cellAt c h.grow)),true),?_,fun v1 v2 lo W o1 o2 _=>growTouch_18_g c h v1 v2 lo W o1 o2 hc0 hc1 (by simpa using n5) (by simpa using n0) (by simpa using n3) (by simpa using n9) hcall hnx hq hk⟩
          rw [ed,fin7_done8]
          simp [meet8,n0,n3,n9]
      · have hq:(h.pos == 19)=true:=by simpa using hp
        have ep:growStepP c h=pull8P c h:=by simp [growStepP,hok,hp]
        cases hs:(h.seen != 0) with
        | true =>
          refine ⟨callG c h,?_,fun v1 v2 lo W o1 o2 _=>growTouch_19c c h v1 v2 lo W o1 o2 hc0 hc1 hs hq hk⟩
          have h0:¬ h.seen=0:=by simpa using hs
          rw [ep]
          by_cases h3:h.seen=3
          · simp only [pull8P,callG,h3,beq_self_eq_true,if_true,tn8,turn8]
            cases ht:turnCB c h.grow 3 6 (cellAt c h.grow).t with
            | true=>simp [fin7_done8]
            | false=>rw [turnC_same7 ht];simp [fin7_done8]
          · simp [pull8P,pull8,callG,h3,h0,fin7_nothing8]
        | false =>
          have h0:h.seen=0:=by simpa using hs
          have e8:growStepP c h=turn8 c h 1 0 (grown8 h):=by rw [ep];simp [pull8P,pull8,h0]
          cases ht:turnCB c h.grow 0 1 0 with
          | true =>
            refine ⟨(turnC c h.grow 0 1 0,grown8 h,true),?_,fun v1 v2 lo W o1 o2 _=>growTouch_19y c h v1 v2 lo W o1 o2 hc0 hc1 hs hcall hnx ht hq hk⟩
            rw [e8,fin7_done8]
            simp [turn8,h0,ht]
          | false =>
            refine ⟨(turnC c h.grow 0 1 0,{ h with pos:=18 },true),?_,fun v1 v2 lo W o1 o2 _=>growTouch_19n0 c h v1 v2 lo W o1 o2 hc0 hc1 hs ht hq hk⟩
            rw [e8,fin7_done8]
            simp [turn8,h0,ht]
      · have hq:(h.pos == 20)=true:=by simpa using hp
        refine ⟨wkS c { h with pos:=21 } { h with pos:=22 },?_,fun v1 v2 lo W o1 o2 hl=>growTouch_20 c h v1 v2 lo W o1 o2 hc hl hk hq⟩
        unfold wkS
        cases ht:tellB c h.wait 1 with
        | true=>simp [growStepP,growStep,hok,hp,raise8,ht,fin7_done8]
        | false=>simp [growStepP,growStep,hok,hp,raise8,ht,fin7_done8,tellC_no8 ht]
      · have hq:(h.pos == 21)=true:=by simpa using hp
        refine ⟨(stateC c h.grow 2,grown8 h,true),?_,fun v1 v2 lo W o1 o2 _=>growTouch_21 c h v1 v2 lo W o1 o2 hc0 hc1 hcall hnx hq hk⟩
        simp [growStepP,growStep,hok,hp,fin7_done8]
      · have hq:(h.pos == 22)=true:=by simpa using hp
        refine ⟨(stateC c h.grow 9,{ h with pos:=16 },true),?_,fun v1 v2 lo W o1 o2 _=>growTouch_22 c h v1 v2 lo W o1 o2 hc0 hc1 hq hk⟩
        simp [growStepP,growStep,hok,hp,fin7_done8]
    · have hno:stepOk c h 16 22 2=false:=by
        have:inB h.pos 16 22=false:=by simp [inB];omega
        simp [stepOk,this]
      have hp25:=hand_pos hh
      have far:∀ k:Int,16≤k→k≤22→(h.pos == k)=false:=fun k h1 h2=>by simp;omega
      exact ⟨nothing,by rw [fin7_nothing8];simp [growStepP,growStep,hno],fun v1 v2 lo W o1 o2 _=>growTouch_far c h v1 v2 lo W o1 o2 hk (far 16 (by omega) (by omega)) (far 17 (by omega) (by omega)) (far 18 (by omega) (by omega)) (far 19 (by omega) (by omega)) (far 20 (by omega) (by omega)) (far 21 (by omega) (by omega)) (far 22 (by omega) (by omega)) (by simp;omega)⟩
set_option maxRecDepth 100000 in
set_option maxHeartbeats 2000000 in
theorem growStepI_any (c:Ch) (h:Ha) (a b:Option Addr) (p q:Nat) (w:World) (h1:Seg w w.heap.size a c.cells.length 3 (cellF c.cells)) (z1:a=none→p=0) (h2:Seg w w.heap.size b c.words.length 1 (intF c.words)) (z2:b=none→q=0) (l1:c.cells.length≤maxLen) (l2:c.words.length≤maxLen) :
    Calls Tryz.prog 154 #[.agg (cvals c (.slice a c.cells.length p) (.slice b c.words.length q)),.agg (hvals h)] w fun r w'=>StepN w w' (growStepP c h) r:=by
  have K:∀ (w:World),Seg w w.heap.size a c.cells.length 3 (cellF c.cells)→(a=none→p=0)→Seg w w.heap.size b c.words.length 1 (intF c.words)→(b=none→q=0)→Calls Tryz.prog 127 #[.func (.func 155) #[] #[],.agg (cvals c (.slice a c.cells.length p) (.slice b c.words.length q)),.agg (hvals h)] w fun r w'=>StepN w w' (growStepP c h) r:=by
    intro w h1 z1 h2 z2
    cases hc:chanOk c with
    | false =>
      rw [show growStepP c h=nothing by simp [growStepP,growStep,stepOk,hc]]
      exact touched_no1 _ c h a b p q w h1 z1 h2 z2 l1 l2 hc
    | true =>
      cases hh:handOk h with
      | false =>
        rw [show growStepP c h=nothing by simp [growStepP,growStep,stepOk,hh]]
        exact touched_no2 _ c h a b p q w h1 z1 h2 z2 l1 l2 hc hh
      | true =>
        obtain ⟨x,e,HT⟩:=growTouch_any c h hc hh
        rw [e]
        exact touched_via _ x c h a b p q w h1 z1 h2 z2 hc hh (fun args w=>by simp [go_sem]) HT
  generalize growStepP c h=x at *
  have T:=Lib.hid K
  have H1:=Lib.hid h1
  have H2:=Lib.hid h2
  have Z1:=Lib.hid z1
  have Z2:=Lib.hid z2
  clear h1 h2 z1 z2 K
  have d1:∀ j,(Value.slice none 0 0).ownBlock=some j→w.heap.size+1+1+1+1≤j:=fun j hj=>by cases hj
  have d2:=d1
  go_enter Tryz.func154,Tryz.ntmps154
  go_wp2_with fail;refine bHit w (by exact zB) fun bb=>?_;refine (T.out _ ((H1.out.below bb).more bb.size) Z1.out ((H2.out.below bb).more bb.size) Z2.out).mono ?_;rintro _ w9 ⟨⟨y1,y2,rfl,oY1,oY2,fY1,fY2⟩,hbw9⟩;have hCw9:Below w.heap.size w w9:=bT bb hbw9;have hsw9:=hbw9.size;(try simp at hsw9);have zz:=q4 hbw9 (b:=w.heap.size);(try simp [go_sem] at zz);(try clear z_wppp x_wppp f_wppp l_wppp);(try clear z_wpp x_wpp f_wpp l_wpp);(try clear z_wp x_wp f_wp l_wp);(try clear z_w x_w f_w l_w);obtain ⟨z_wppp,z_wpp,z_wp,z_w⟩:=zz;obtain ⟨x_wppp,f_wppp,l_wppp⟩:=bO z_wppp;obtain ⟨x_wpp,f_wpp,l_wpp⟩:=bO z_wpp;obtain ⟨x_wp,f_wp,l_wp⟩:=bO z_wp;obtain ⟨x_w,f_w,l_w⟩:=bO z_w;clear hbw9 bb
  replace oY1:OCells w9 w.heap.size y1 x.1.cells:=own_lo oY1 (by simp;omega)
  replace oY2:OInts w9 w.heap.size y2 x.1.words:=own_lo oY2 (by simp;omega)
  have hoff1:∀ j,w.heap.size≤j→j<w.heap.size+1+1+1+1→y1.ownBlock≠some j:=fun j _ h2=>fY1.off2 d1 h2 (by (try simp) <;> omega);have hoff2:∀ j,w.heap.size≤j→j<w.heap.size+1+1+1+1→y2.ownBlock≠some j:=fun j _ h2=>fY2.off2 d2 h2 (by (try simp) <;> omega);have fr1:Fresh w (.slice none 0 0) y1:=fun j hj=>.inr (fY1.up d1 (by (try simp) <;> omega) (by (try simp) <;> omega) j hj);have fr2:Fresh w (.slice none 0 0) y2:=fun j hj=>.inr (fY2.up d2 (by (try simp) <;> omega) (by (try simp) <;> omega) j hj);obtain ⟨ya,yp,rfl,_⟩:=oY1.seg;obtain ⟨yb,yq,rfl,_⟩:=oY2.seg
  go_wp2
  refine bodyPost_ret (res_cct Tryz.results154 rfl (ldChan x.1 (.slice ya x.1.cells.length yp) (.slice yb x.1.words.length yq) (by simp [go_sem, *])) rfl (ldHand x.2.1 (by simp [go_sem, *]))) rfl ⟨⟨_,_,rfl,?_,?_,fr1,fr2⟩,by exact zB⟩
  · exact zP oY1 oY1 hoff1
  · exact zP oY2 oY2 hoff2
end Go.Proofs.YtmnpgkcdfielbaaGreat
set_option linter.unusedSimpArgs false
set_option linter.unusedVariables false
namespace Go.Proofs.YtmnpgkcdfielbaaGreat
open Go.RowKit
set_option linter.unusedSimpArgs false
attribute [local simp] bx_size
attribute [local go_sem ↓] zeroHand zeroChan toLHand toLChan toVHand toVChan storeHand storeChan storeHandC storeChanC
def heardH (h:Ha) (x:Int):Ha:=if x == 0 then h else if x == 2 then { h with pos:=25 } else if h.code == 1 then resting 1 0 else { h with pos:=24 }
theorem pWord_any (c:Ch) (v:Int) (v1 v2:Value) (lo:Nat) (w:World) (h1:OCells w lo v1 c.cells) (h2:OInts w lo v2 c.words) (hc:chanOk c=true) :
    Calls Tryz.prog 167 #[.agg (cvals c v1 v2),.int .i64 v] w fun r w'=>r=.returned (.int .i64 (wordOf c v))∧Below w.heap.size w w':=by
  obtain ⟨n1,n2⟩:=chan_len hc
  obtain ⟨a,p,rfl,g1⟩:=h1.seg
  obtain ⟨b,q,rfl,g2⟩:=h2.seg
  exact wordOf_any c v a b p q w g1 g2 (by unfold maxLen;omega) (by unfold maxLen;omega)
set_option maxRecDepth 100000 in
set_option maxHeartbeats 2000000 in
theorem ownWord_yes (c:Ch) (h:Ha) (v1 v2:Value) (lo:Nat) (w:World) (h1:OCells w lo v1 c.cells) (h2:OInts w lo v2 c.words) (hc:chanOk c=true) (x:Int) (hx:wordOf c h.mine=x) (hp:¬ x<0) :
    Calls Tryz.prog 163 #[.agg (cvals c v1 v2),.agg (hvals h)] w fun r w'=>r=.returned (.int .i64 x)∧Below w.heap.size w w':=by
  have WO:=Lib.hid fun W a b=>pWord_any c h.mine v1 v2 lo W a b hc
  rw [hx] at WO
  clear hx
  have b1:=fun j (hj:v1.ownBlock=some j)=>(h1.lt j hj).2
  have b2:=fun j (hj:v2.ownBlock=some j)=>(h2.lt j hj).2
  obtain ⟨a1,q1,rfl,_⟩:=h1.seg
  obtain ⟨a2,q2,rfl,_⟩:=h2.seg
  have O1:=Lib.hid h1
  have O2:=Lib.hid h2
  clear h1 h2
  have o1:=O1.out
  have o2:=O2.out
  go_enter Tryz.func163,Tryz.ntmps163
  go_wp2_with fail;refine bHit w (by exact zB) fun bb=>?_;refine (WO.out _ (by exact zO o1 o1) (by exact zO o2 o2)).mono ?_;rintro _ w1 ⟨rfl,hbw1⟩;have hCw1:Below w.heap.size w w1:=bT bb hbw1;have hsw1:=hbw1.size;(try simp at hsw1);have zz:=And.intro (hQ hbw1 (b:=w.heap.size+1)) <| hQ hbw1 (b:=w.heap.size);(try simp [go_sem] at zz);(try clear z_wp x_wp f_wp l_wp);(try clear z_w x_w f_w l_w);obtain ⟨z_wp,z_w⟩:=zz;obtain ⟨x_wp,f_wp,l_wp⟩:=bO z_wp;obtain ⟨x_w,f_w,l_w⟩:=bO z_w;clear hbw1 bb
  go_wp2
  go_ret
  exact ⟨rfl,by exact zB⟩
set_option maxRecDepth 100000 in
set_option maxHeartbeats 2000000 in
theorem ownWord_no (c:Ch) (h:Ha) (v1 v2:Value) (lo:Nat) (w:World) (h1:OCells w lo v1 c.cells) (h2:OInts w lo v2 c.words) (hc:chanOk c=true) (hx:wordOf c h.mine=-1) :
    Calls Tryz.prog 163 #[.agg (cvals c v1 v2),.agg (hvals h)] w fun e W'=>∃ T s,e=.panicked [{ v:=.iface T s,recovered:=false }]∧Below w.heap.size w W':=by
  have WO:=Lib.hid fun W a b=>pWord_any c h.mine v1 v2 lo W a b hc
  rw [hx] at WO
  clear hx
  have b1:=fun j (hj:v1.ownBlock=some j)=>(h1.lt j hj).2
  have b2:=fun j (hj:v2.ownBlock=some j)=>(h2.lt j hj).2
  obtain ⟨a1,q1,rfl,_⟩:=h1.seg
  obtain ⟨a2,q2,rfl,_⟩:=h2.seg
  have O1:=Lib.hid h1
  have O2:=Lib.hid h2
  clear h1 h2
  have o1:=O1.out
  have o2:=O2.out
  go_enter Tryz.func163,Tryz.ntmps163
  go_wp2_with fail;refine bHit w (by exact zB) fun bb=>?_;refine (WO.out _ (by exact zO o1 o1) (by exact zO o2 o2)).mono ?_;rintro _ w1 ⟨rfl,hbw1⟩;have hCw1:Below w.heap.size w w1:=bT bb hbw1;have hsw1:=hbw1.size;(try simp at hsw1);have zz:=And.intro (hQ hbw1 (b:=w.heap.size+1)) <| hQ hbw1 (b:=w.heap.size);(try simp [go_sem] at zz);(try clear z_wp x_wp f_wp l_wp);(try clear z_w x_w f_w l_w);obtain ⟨z_wp,z_w⟩:=zz;obtain ⟨x_wp,f_wp,l_wp⟩:=bO z_wp;obtain ⟨x_w,f_w,l_w⟩:=bO z_w;clear hbw1 bb
  go_wp2
  exact ⟨rfl,_,_,rfl,by exact zB⟩
theorem goneOf_any (k e:Int) (w:World):Calls Tryz.prog 166 #[.agg #[.int .i64 k,.int .i64 e]] w fun r w'=>r=.returned (.int .i64 (if k == 1 then 9 else 10))∧Below w.heap.size w w':=by
  go_enter Tryz.func166,Tryz.ntmps166
  go_wp2
  all_goals go_ret
  all_goals exact ⟨ret_i64 (by simp_all),by exact zB⟩
set_option maxRecDepth 100000 in
set_option maxHeartbeats 2000000 in
theorem heard_0 (h:Ha) (x:Int) (w:World) (hx:x=0):Calls Tryz.prog 164 #[.agg (hvals h),.int .i64 x] w fun r w'=>r=.returned (.agg (hvals h))∧Below w.heap.size w w':=by
  go_enter Tryz.func164,Tryz.ntmps164
  subst hx
  go_wp2
  exact bodyPost_ret (res_c Tryz.results164 rfl (ldHand h (by simp [go_sem, *] <;> rfl))) rfl ⟨rfl,by exact zB⟩
set_option maxRecDepth 100000 in
set_option maxHeartbeats 2000000 in
theorem heard_2 (h:Ha) (x:Int) (w:World) (hx:x=2):Calls Tryz.prog 164 #[.agg (hvals h),.int .i64 x] w fun r w'=>r=.returned (.agg (hvals { h with pos:=25 }))∧Below w.heap.size w w':=by
  go_enter Tryz.func164,Tryz.ntmps164
  subst hx
  go_wp2_with fail;refine bHit w (by exact zB) fun bb=>?_;refine (moved_any _ _ _).mono ?_;rintro _ w1 ⟨rfl,hbw1⟩;have hCw1:Below w.heap.size w w1:=bT bb hbw1;have hsw1:=hbw1.size;(try simp at hsw1);have zz:=And.intro (hQ hbw1 (b:=w.heap.size+1)) <| hQ hbw1 (b:=w.heap.size);(try simp [go_sem] at zz);(try clear z_wp x_wp f_wp l_wp);(try clear z_w x_w f_w l_w);obtain ⟨z_wp,z_w⟩:=zz;obtain ⟨x_wp,f_wp,l_wp⟩:=bO z_wp;obtain ⟨x_w,f_w,l_w⟩:=bO z_w;clear hbw1 bb
  go_wp2
  exact bodyPost_ret (res_c Tryz.results164 rfl (ldHand { h with pos:=25 } (by simp [go_sem, *] <;> rfl))) rfl ⟨rfl,by exact zB⟩
set_option maxRecDepth 100000 in
set_option maxHeartbeats 2000000 in
theorem heard_s (h:Ha) (x:Int) (w:World) (h0:(x == 0)=false) (h2:(x == 2)=false) (hk:(h.code == 1)=true):Calls Tryz.prog 164 #[.agg (hvals h),.int .i64 x] w fun r w'=>r=.returned (.agg (hvals (resting 1 0)))∧Below w.heap.size w w':=by
  go_enter Tryz.func164,Tryz.ntmps164
  go_wp2_with fail;refine bHit w (by exact zB) fun bb=>?_;refine (resting_any _ _ _).mono ?_;rintro _ w1 ⟨rfl,hbw1⟩;have hCw1:Below w.heap.size w w1:=bT bb hbw1;have hsw1:=hbw1.size;(try simp at hsw1);have zz:=And.intro (hQ hbw1 (b:=w.heap.size+1)) <| hQ hbw1 (b:=w.heap.size);(try simp [go_sem] at zz);(try clear z_wp x_wp f_wp l_wp);(try clear z_w x_w f_w l_w);obtain ⟨z_wp,z_w⟩:=zz;obtain ⟨x_wp,f_wp,l_wp⟩:=bO z_wp;obtain ⟨x_w,f_w,l_w⟩:=bO z_w;clear hbw1 bb
  go_wp2
  exact bodyPost_ret (res_c Tryz.results164 rfl (ldHand (resting 1 0) (by simp [go_sem, *] <;> rfl))) rfl ⟨rfl,by exact zB⟩
set_option maxRecDepth 100000 in
set_option maxHeartbeats 2000000 in
theorem heard_r (h:Ha) (x:Int) (w:World) (h0:(x == 0)=false) (h2:(x == 2)=false) (hk:(h.code == 1)=false):Calls Tryz.prog 164 #[.agg (hvals h),.int .i64 x] w fun r w'=>r=.returned (.agg (hvals { h with pos:=24 }))∧Below w.heap.size w w':=by
  go_enter Tryz.func164,Tryz.ntmps164
  go_wp2_with fail;refine bHit w (by exact zB) fun bb=>?_;refine (moved_any _ _ _).mono ?_;rintro _ w1 ⟨rfl,hbw1⟩;have hCw1:Below w.heap.size w w1:=bT bb hbw1;have hsw1:=hbw1.size;(try simp at hsw1);have zz:=And.intro (hQ hbw1 (b:=w.heap.size+1)) <| hQ hbw1 (b:=w.heap.size);(try simp [go_sem] at zz);(try clear z_wp x_wp f_wp l_wp);(try clear z_w x_w f_w l_w);obtain ⟨z_wp,z_w⟩:=zz;obtain ⟨x_wp,f_wp,l_wp⟩:=bO z_wp;obtain ⟨x_w,f_w,l_w⟩:=bO z_w;clear hbw1 bb
  go_wp2
  exact bodyPost_ret (res_c Tryz.results164 rfl (ldHand { h with pos:=24 } (by simp [go_sem, *] <;> rfl))) rfl ⟨rfl,by exact zB⟩
theorem heard_any (h:Ha) (x:Int) (w:World):Calls Tryz.prog 164 #[.agg (hvals h),.int .i64 x] w fun r w'=>r=.returned (.agg (hvals (heardH h x)))∧Below w.heap.size w w':=by
  by_cases h0:x=0
  · rw [show heardH h x=h by simp [heardH,h0]]
    exact heard_0 h x w h0
  by_cases h2:x=2
  · rw [show heardH h x={ h with pos:=25 } by simp [heardH,h2]]
    exact heard_2 h x w h2
  have e0:(x == 0)=false:=by simpa using h0
  have e2:(x == 2)=false:=by simpa using h2
  cases hk:(h.code == 1) with
  | true =>
    rw [show heardH h x=resting 1 0 by simp only [heardH,e0,e2,hk];rfl]
    exact heard_s h x w e0 e2 hk
  | false =>
    rw [show heardH h x={ h with pos:=24 } by simp only [heardH,e0,e2,hk];rfl]
    exact heard_r h x w e0 e2 hk
set_option maxRecDepth 100000 in
set_option maxHeartbeats 2000000 in
theorem fetched_no (c:Ch) (h:Ha) (v1 v2:Value) (lo:Nat) (w:World) (h1:OCells w lo v1 c.cells) (h2:OInts w lo v2 c.words) (hk:(h.code != 2)=true) :
    Calls Tryz.prog 165 #[.agg (cvals c v1 v2),.agg (hvals h)] w fun e W'=>∃ T s,e=.panicked [{ v:=.iface T s,recovered:=false }]∧Below w.heap.size w W':=by
  have b1:=fun j (hj:v1.ownBlock=some j)=>(h1.lt j hj).2
  have b2:=fun j (hj:v2.ownBlock=some j)=>(h2.lt j hj).2
  obtain ⟨a1,q1,rfl,_⟩:=h1.seg
  obtain ⟨a2,q2,rfl,_⟩:=h2.seg
  have O1:=Lib.hid h1
  have O2:=Lib.hid h2
  clear h1 h2
  have o1:=O1.out
  have o2:=O2.out
  go_enter Tryz.func165,Tryz.ntmps165
  go_wp2
  exact ⟨rfl,_,_,rfl,by exact zB⟩
set_option maxRecDepth 100000 in
set_option maxHeartbeats 2000000 in
theorem fetched_yes (c:Ch) (h:Ha) (v1 v2:Value) (lo:Nat) (w:World) (h1:OCells w lo v1 c.cells) (h2:OInts w lo v2 c.words) (hc0:0≤h.cell) (hc1:h.cell<c.cells.length) (hk:(h.code != 2)=false) :
    Calls Tryz.prog 165 #[.agg (cvals c v1 v2),.agg (hvals h)] w fun r w'=>r=.returned (.agg (hvals (resting 2 (cellAt c h.cell).e)))∧Below w.heap.size w w':=by
  obtain ⟨i,hci⟩:∃ i:Nat,h.cell=(i:Int):=⟨h.cell.toNat,by omega⟩
  have hi:i<c.cells.length:=by omega
  have hi0:(0:Int)≤(i:Int):=by omega
  have hi1:(i:Int)<(c.cells.length:Int):=by omega
  have hne:=h1.ne h2
  obtain ⟨a2,q2,rfl,_⟩:=h2.seg
  obtain ⟨g,q1,rfl,hlo1,hlt,hcell,hfr⟩:=h1.open1 hi
  have O1:=Lib.hid h1
  have O2:=Lib.hid h2
  have lg0:g<w.heap.size+1:=by omega
  have lg1:g<w.heap.size+1+1:=by omega
  have lg2:g<w.heap.size+1+1+1:=by omega
  have ng0:g≠w.heap.size:=by omega
  have ng1:g≠w.heap.size+1:=by omega
  have ng2:g≠w.heap.size+1+1:=by omega
  have ng3:g≠w.heap.size+1+1+1:=by omega
  have mg0:w.heap.size≠g:=by omega
  have mg1:w.heap.size+1≠g:=by omega
  have mg2:w.heap.size+1+1≠g:=by omega
  have mg3:w.heap.size+1+1+1≠g:=by omega
  have hx:Hid (cellAt c h.cell=c.cells.getD i ⟨0,0,0⟩):=by simp [cellAt,Hid,hci]
  have c0:=hcell 0 (by omega)
  have c1:=hcell 1 (by omega)
  have c2:=hcell 2 (by omega)
  simp only [C3.val,Nat.add_zero] at c0 c1 c2
  have ex:=hx.out
  rw [ex]
  generalize c.cells.getD i ⟨0,0,0⟩=x at *
  obtain ⟨s,e,t⟩:=x
  simp only at c0 c1 c2 ⊢
  clear hx ex hcell h1 h2
  go_enter Tryz.func165,Tryz.ntmps165
  go_wp2_with fail;refine bHit w (by exact zB) fun bb=>?_;refine (resting_any _ _ _).mono ?_;rintro _ w1 ⟨rfl,hbw1⟩;have hCw1:Below w.heap.size w w1:=bT bb hbw1;have hsw1:=hbw1.size;(try simp at hsw1);have zz:=And.intro (hQ hbw1 (b:=w.heap.size+1+1)) <| And.intro (hQ hbw1 (b:=w.heap.size+1)) <| hQ hbw1 (b:=w.heap.size);(try simp [go_sem] at zz);(try clear z_wpp x_wpp f_wpp l_wpp);(try clear z_wp x_wp f_wp l_wp);(try clear z_w x_w f_w l_w);obtain ⟨z_wpp,z_wp,z_w⟩:=zz;obtain ⟨x_wpp,f_wpp,l_wpp⟩:=bO z_wpp;obtain ⟨x_wp,f_wp,l_wp⟩:=bO z_wp;obtain ⟨x_w,f_w,l_w⟩:=bO z_w;clear hbw1 bb
  go_wp2
  exact bodyPost_ret (res_c Tryz.results165 rfl (ldHand (resting 2 e) (by simp [go_sem, *] <;> rfl))) rfl ⟨rfl,by exact zB⟩
end Go.Proofs.YtmnpgkcdfielbaaGreat
