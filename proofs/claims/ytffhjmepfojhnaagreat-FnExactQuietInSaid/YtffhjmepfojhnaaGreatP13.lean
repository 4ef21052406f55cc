/-
  The program's touch of receiving, every case, and its step, on hands and channels that are kept whole; lists lie in memory.
-/
import Derived.Test.YtffhjmepfojhnaaGreatP06
import Derived.Test.YtffhjmepfojhnaaGreatP09
import Derived.Test.YtffhjmepfojhnaaGreatP12
import Derived.Laws.EntriesVeiled
import Derived.Deep.RegionHeld3
import Derived.BigRegion
import Derived.Deep.DeepCutAuto
import Derived.LoopN
import Derived.WalkMore
import Derived.Test.YtffhjmepfojhnaaGreatP08
import Derived.WalkLawsBesides
import Derived.Test.YtffhjmepfojhnaaGreatP05
set_option maxRecDepth 100000
set_option maxHeartbeats 2000000
set_option linter.unusedSimpArgs false
set_option linter.unusedVariables false
namespace Go.Proofs.YtffhjmepfojhnaaGreat
section
open Go.RowKit
attribute [local simp] aI
attribute [local go_sem ↓] aH aU aM bz aN bB aA aK ax aB
def zM (c:Ch) (h:Ha):St:=if c.got=40 then (c,aS 4 0,true) else ({ c with got:=c.got+1 },{ h with cell:=c.got,pos:=10 },true)
theorem rV (c:Ch) (h:Ha) (v1 v2:Value) (lo:Nat) (w:World) (h1:ah w lo v1 c.cells) (h2:ai w lo v2 c.words) (EC:0≤c.got∧c.got≤40) :
  bY 261 c h v1 v2 lo w (zM c h):=by
 unfold zM
 split
 ·exact wL c h v1 v2 lo w h1 h2 ‹_›
 ·exact wM c h v1 v2 lo w h1 h2 ‹_› EC
def iR (c:Ch) (h:Ha):St:=if (cellAt c h.cell).s == 6 then (c,h,false) else if (gz c h).2 then (c,(gz c h).1,true) else nothing
theorem wP (c:Ch) (h:Ha) (v1 v2:Value) (lo:Nat) (w:World) (h1:ah w lo v1 c.cells) (h2:ai w lo v2 c.words) (hc0:0≤h.cell) (hc1:h.cell<c.cells.length) (hk:dO h.code h.elem=true) :
  bY 262 c h v1 v2 lo w (iR c h):=by
 by_cases n0:(cellAt c h.cell).s=0
 ·rw [show iR c h=(c,{ dw h (cellAt c h.cell) with pos:=11 },true) by simp [iR,gz,n0]]
  exact BX c h v1 v2 lo w h1 h2 hc0 hc1 n0
 by_cases n1:(cellAt c h.cell).s=1
 ·rw [show iR c h=(c,{ dw h (cellAt c h.cell) with pos:=11 },true) by simp [iR,gz,n1]]
  exact BZ c h v1 v2 lo w h1 h2 hc0 hc1 n1
 by_cases n2:(cellAt c h.cell).s=2
 ·rw [show iR c h=(c,{ dw h (cellAt c h.cell) with pos:=12 },true) by simp [iR,gz,n2]]
  exact Ca c h v1 v2 lo w h1 h2 hc0 hc1 n2
 by_cases n3:(cellAt c h.cell).s=3
 ·rw [show iR c h=(c,{ dw h (cellAt c h.cell) with pos:=12 },true) by simp [iR,gz,n3]]
  exact Cb c h v1 v2 lo w h1 h2 hc0 hc1 n3
 by_cases n9:(cellAt c h.cell).s=9
 ·rw [show iR c h=(c,anew h,true) by simp [iR,gz,n9];rfl]
  exact Cc c h v1 v2 lo w h1 h2 hc0 hc1 n9 hk
 by_cases n6:(cellAt c h.cell).s=6
 ·rw [show iR c h=(c,h,false) by simp [iR,n6]]
  exact Ce c h v1 v2 lo w h1 h2 hc0 hc1 n6
 ·rw [show iR c h=nothing by simp [iR,gz,n0,n1,n2,n3,n9,n6]]
  exact zw c h v1 v2 lo w h1 h2 hc0 hc1 (by simpa using n0) (by simpa using n1) (by simpa using n2) (by simpa using n3) (by simpa using n9) (by simpa using n6)
def iT (c:Ch) (h:Ha):St :=
 if h.seen == 2 then qA c 7 0 (dI h 0) { h with pos:=10 } else if h.seen == 3 then qA c 5 (cellAt c h.cell).t { h with pos:=13 } { h with pos:=10 }
 else if h.seen != 0 && h.seen != 1 then nothing else if h.cell<h.come then qA c 8 0 (dI h 2) { h with pos:=10 } else zy c 4 (dI h 1) { h with pos:=10 }
theorem wQ (c:Ch) (h:Ha) (v1 v2:Value) (lo:Nat) (w:World) (h1:ah w lo v1 c.cells) (h2:ai w lo v2 c.words) (hc0:0≤h.cell) (hc1:h.cell<c.cells.length) (hc:aG c=true) (hlo:lo≤w.heap.size) :
  bY 263 c h v1 v2 lo w (iT c h):=by
 cases e0:(h.seen == 0) with
 | true =>
  have q:h.seen=0:=by simpa using e0
  by_cases hx:h.come≤h.cell
  ·rw [show iT c h=zy c 4 (dI h 1) { h with pos:=10 } by simp [iT,q,show ¬ h.cell<h.come by omega]]
   exact zF c h v1 v2 lo w h1 h2 hc0 hc1 hc hlo e0 hx
  ·rw [show iT c h=qA c 8 0 (dI h 2) { h with pos:=10 } by simp [iT,q,show h.cell<h.come by omega]]
   exact zI c h v1 v2 lo w h1 h2 hc0 hc1 e0 hx
 | false =>
  cases e1:(h.seen == 1) with
  | true =>
   have q:h.seen=1:=by simpa using e1
   by_cases hx:h.come≤h.cell
   ·rw [show iT c h=zy c 4 (dI h 1) { h with pos:=10 } by simp [iT,q,show ¬ h.cell<h.come by omega]]
    exact zJ c h v1 v2 lo w h1 h2 hc0 hc1 hc hlo e0 e1 hx
   ·rw [show iT c h=qA c 8 0 (dI h 2) { h with pos:=10 } by simp [iT,q,show h.cell<h.come by omega]]
    exact zK c h v1 v2 lo w h1 h2 hc0 hc1 e0 e1 hx
  | false =>
   cases e2:(h.seen == 2) with
   | true =>
    rw [show iT c h=qA c 7 0 (dI h 0) { h with pos:=10 } by simp only [iT,e2];rfl]
    exact Cs c h v1 v2 lo w h1 h2 hc0 hc1 e0 e1 e2
   | false =>
    cases e3:(h.seen == 3) with
    | true =>
     rw [show iT c h=qA c 5 (cellAt c h.cell).t { h with pos:=13 } { h with pos:=10 } by simp only [iT,e2,e3];rfl]
     exact Ct c h v1 v2 lo w h1 h2 hc0 hc1 e0 e1 e2 e3
    | false =>
     rw [show iT c h=nothing by simp only [iT,e2,e3,bne,e0,e1];rfl]
     exact zL c h v1 v2 lo w h1 h2 e0 e1 e2 e3
theorem wR (c:Ch) (h:Ha) (v1 v2:Value) (lo:Nat) (w:World) (h1:ah w lo v1 c.cells) (h2:ai w lo v2 c.words) (hk:(h.code != 2)=true) :
  bY 260 c h v1 v2 lo w (nothing):=by
 have T:=Lib.hid fun W=>fO W lo v1 v2
 generalize nothing=x at *
 obtain ⟨a1,q1,a2,q2,rfl,rfl,o1,o2,b1,b2,m1,m2,m10,m20,m11,m21,m12,m22,m13,m23⟩:=Jh h1 h2
 clear h1 h2
 go_enter Tryz.func260,Tryz.ntmps260
 go_wp2_with fail
 refine (T.out _).mono ?_
 rintro _ w3 ⟨⟨y1,y2,rfl,aO,aQ,dH,dF⟩,aC⟩
 have hO3:gV (Value.slice a1 c.cells.length q1).ownBlock (Value.slice a2 c.words.length q2).ownBlock w w3:=fA (dA zB) (dA aC)
 have bM:=aC.size;(try simp at bM);have zz:=AZ aC (b:=w.heap.size);(try simp [go_sem] at zz);replace bX:=dx zz;clear zz aC
 obtain ⟨⟨aD,aF⟩,dQ,dR⟩:=sO (w:=w) (w.heap.size+1+1+1+1) dH dF b1 b2;obtain ⟨ya,yp,rfl,_⟩:=aO.seg;obtain ⟨yb,yq,rfl,_⟩:=aQ.seg
 go_wp2
 refine rE Tryz.results260 rfl (az x.1 (.slice ya x.1.cells.length yp) (.slice yb x.1.words.length yq) tY) rfl (aj x.2.1 tY) ⟨⟨_,_,rfl,?_,?_,dQ,dR⟩,by exact zN⟩
 ·exact zP aO aO aD
 ·exact zP aQ aQ aF
theorem um (c:Ch) (h:Ha) (v1 v2:Value) (lo:Nat) (w:World) (h1:ah w lo v1 c.cells) (h2:ai w lo v2 c.words) (hk:(h.code != 2)=false) (n9:(h.pos == 9)=false) (n10:(h.pos == 10)=false) (n11:(h.pos == 11)=false) (n12:(h.pos == 12)=false) (n13:(h.pos == 13)=false) (n14:(h.pos == 14)=false) (n15:(h.pos == 15)=false) :
  bY 260 c h v1 v2 lo w (nothing):=by
 have T:=Lib.hid fun W=>fO W lo v1 v2
 generalize nothing=x at *
 obtain ⟨a1,q1,a2,q2,rfl,rfl,o1,o2,b1,b2,m1,m2,m10,m20,m11,m21,m12,m22,m13,m23⟩:=Jh h1 h2
 clear h1 h2
 go_enter Tryz.func260,Tryz.ntmps260
 go_wp2_with fail
 refine (T.out _).mono ?_
 rintro _ w3 ⟨⟨y1,y2,rfl,aO,aQ,dH,dF⟩,aC⟩
 have hO3:gV (Value.slice a1 c.cells.length q1).ownBlock (Value.slice a2 c.words.length q2).ownBlock w w3:=fA (dA zB) (dA aC)
 have bM:=aC.size;(try simp at bM);have zz:=AZ aC (b:=w.heap.size);(try simp [go_sem] at zz);replace bX:=dx zz;clear zz aC
 obtain ⟨⟨aD,aF⟩,dQ,dR⟩:=sO (w:=w) (w.heap.size+1+1+1+1) dH dF b1 b2;obtain ⟨ya,yp,rfl,_⟩:=aO.seg;obtain ⟨yb,yq,rfl,_⟩:=aQ.seg
 go_wp2
 refine rE Tryz.results260 rfl (az x.1 (.slice ya x.1.cells.length yp) (.slice yb x.1.words.length yq) tY) rfl (aj x.2.1 tY) ⟨⟨_,_,rfl,?_,?_,dQ,dR⟩,by exact zN⟩
 ·exact zP aO aO aD
 ·exact zP aQ aQ aF
theorem zQ (c:Ch) (h:Ha) (v1 v2:Value) (lo:Nat) (w:World) (h1:ah w lo v1 c.cells) (h2:ai w lo v2 c.words) (EC:0≤c.got∧c.got≤40) (hk:(h.code != 2)=false) (hq:(h.pos == 9)=true) :
  bY 260 c h v1 v2 lo w (zM c h):=by
 have T:=Lib.hid fun W a b=>rV c h v1 v2 lo W a b EC
 change Hid (∀ W,_→_→Calls _ _ _ _ (fun r w'=>cK W w' lo v1 v2 (zM c h) r)) at T
 clear EC
 generalize zM c h=x at *
 obtain ⟨a1,q1,a2,q2,rfl,rfl,o1,o2,b1,b2,m1,m2,m10,m20,m11,m21,m12,m22,m13,m23⟩:=Jh h1 h2
 clear h1 h2
 go_enter Tryz.func260,Tryz.ntmps260
 go_wp2_with fail
 refine (T.out _ (zO o1 o1) (zO o2 o2)).mono ?_
 rintro _ w3 ⟨⟨y1,y2,rfl,aO,aQ,dH,dF⟩,hO⟩
 have hO3:gV (Value.slice a1 c.cells.length q1).ownBlock (Value.slice a2 c.words.length q2).ownBlock w w3:=fA (dA zB) hO
 have bM:=hO.2.2.2.1;(try (simp at bM));have zz:=Bl hO (b:=w.heap.size);(try simp [go_sem] at zz);replace bX:=dx zz;clear zz
 clear hO
 obtain ⟨⟨aD,aF⟩,dQ,dR⟩:=sO (w:=w) (w.heap.size+1+1+1+1) dH dF b1 b2;obtain ⟨ya,yp,rfl,_⟩:=aO.seg;obtain ⟨yb,yq,rfl,_⟩:=aQ.seg
 go_wp2
 refine rE Tryz.results260 rfl (az x.1 (.slice ya x.1.cells.length yp) (.slice yb x.1.words.length yq) tY) rfl (aj x.2.1 tY) ⟨⟨_,_,rfl,?_,?_,dQ,dR⟩,by exact zN⟩
 ·exact zP aO aO aD
 ·exact zP aQ aQ aF
theorem wS (c:Ch) (h:Ha) (v1 v2:Value) (lo:Nat) (w:World) (h1:ah w lo v1 c.cells) (h2:ai w lo v2 c.words) (hc0:0≤h.cell) (hc1:h.cell<c.cells.length) (hcall:dO h.code h.elem=true) (hk:(h.code != 2)=false) (hq:(h.pos == 10)=true) :
  bY 260 c h v1 v2 lo w (iR c h):=by
 have T:=Lib.hid fun W a b=>wP c h v1 v2 lo W a b hc0 hc1 hcall
 change Hid (∀ W,_→_→Calls _ _ _ _ (fun r w'=>cK W w' lo v1 v2 (iR c h) r)) at T
 clear hc0 hc1 hcall
 have n9:(h.pos == 9)=false:=by simp at hq ⊢;omega
 generalize iR c h=x at *
 obtain ⟨a1,q1,a2,q2,rfl,rfl,o1,o2,b1,b2,m1,m2,m10,m20,m11,m21,m12,m22,m13,m23⟩:=Jh h1 h2
 clear h1 h2
 go_enter Tryz.func260,Tryz.ntmps260
 go_wp2_with fail
 refine (T.out _ (zO o1 o1) (zO o2 o2)).mono ?_
 rintro _ w3 ⟨⟨y1,y2,rfl,aO,aQ,dH,dF⟩,hO⟩
 have hO3:gV (Value.slice a1 c.cells.length q1).ownBlock (Value.slice a2 c.words.length q2).ownBlock w w3:=fA (dA zB) hO
 have bM:=hO.2.2.2.1;(try (simp at bM));have zz:=Bl hO (b:=w.heap.size);(try simp [go_sem] at zz);replace bX:=dx zz;clear zz
 clear hO
 obtain ⟨⟨aD,aF⟩,dQ,dR⟩:=sO (w:=w) (w.heap.size+1+1+1+1) dH dF b1 b2;obtain ⟨ya,yp,rfl,_⟩:=aO.seg;obtain ⟨yb,yq,rfl,_⟩:=aQ.seg
 go_wp2
 refine rE Tryz.results260 rfl (az x.1 (.slice ya x.1.cells.length yp) (.slice yb x.1.words.length yq) tY) rfl (aj x.2.1 tY) ⟨⟨_,_,rfl,?_,?_,dQ,dR⟩,by exact zN⟩
 ·exact zP aO aO aD
 ·exact zP aQ aQ aF
theorem wT (c:Ch) (h:Ha) (v1 v2:Value) (lo:Nat) (w:World) (h1:ah w lo v1 c.cells) (h2:ai w lo v2 c.words) (hk:(h.code != 2)=false) (hq:(h.pos == 11)=true) :
  bY 260 c h v1 v2 lo w ((c,{ h with come:=c.sent,pos:=12 },true)):=by
 have n9:(h.pos == 9)=false:=by simp at hq ⊢;omega
 have n10:(h.pos == 10)=false:=by simp at hq ⊢;omega
 obtain ⟨a1,q1,a2,q2,rfl,rfl,O1,O2,b1,b2⟩:=qH h1 h2
 clear h1 h2
 have o1:=O1.out
 have o2:=O2.out
 go_enter Tryz.func260,Tryz.ntmps260
 go_wp2_with fail
 go_region_held3 (fun w'=>hp w' w.heap.size=some (.cells (af c (.slice a1 c.cells.length q1) (.slice a2 c.words.length q2)) 31)∧hp w' (w.heap.size+1)=some (.cells (aa { h with come:=c.sent }) 49))
  (first|(simp [*,go_sem]))
  (first|((go_at_call 247;refine au w zB fun bb=>?_;refine (dm _ _ _).mono ?_;rintro _ w1 ⟨rfl,ag⟩;obtain ⟨aV,ak,zz⟩:=dV bb ag (b:=w.heap.size);(try simp at ak);(try simp [go_sem] at zz);replace bX:=dx zz;clear zz;have eD:=aV;clear ag bb);have p1:=own_below o1 eD;have p2:=own_below o2 eD))
 go_wp2
 refine rE Tryz.results260 rfl (az c (.slice a1 c.cells.length q1) (.slice a2 c.words.length q2) tZ) rfl (aj { h with come:=c.sent,pos:=12 } tZ) ⟨⟨_,_,rfl,?_,?_,av _ _,av _ _⟩,dA zB⟩
 ·exact zO p1 o1
 ·exact zO p2 o2
theorem wU (c:Ch) (h:Ha) (v1 v2:Value) (lo:Nat) (w:World) (h1:ah w lo v1 c.cells) (h2:ai w lo v2 c.words) (hc0:0≤h.cell) (hc1:h.cell<c.cells.length) (hc:aG c=true) (hlo:lo≤w.heap.size) (hk:(h.code != 2)=false) (hq:(h.pos == 12)=true) :
  bY 260 c h v1 v2 lo w (iT c h):=by
 have T0:=fun W a b hl=>wQ c h v1 v2 lo W a b hc0 hc1 hc hl
 generalize iT c h=x at *
 clear hc0 hc1 hc
 have n9:(h.pos == 9)=false:=by simp at hq ⊢;omega
 have n10:(h.pos == 10)=false:=by simp at hq ⊢;omega
 have n11:(h.pos == 11)=false:=by simp at hq ⊢;omega
 have b1:=jc h1
 have b2:=jc h2
 have m1:=lD b1
 have m2:=lD b2
 have m10:=m1 (w.heap.size) tO
 have m20:=m2 (w.heap.size) tO
 have m11:=m1 (w.heap.size+1) tO
 have m21:=m2 (w.heap.size+1) tO
 have m12:=m1 (w.heap.size+1+1) tO
 have m22:=m2 (w.heap.size+1+1) tO
 have m13:=m1 (w.heap.size+1+1+1) tO
 have m23:=m2 (w.heap.size+1+1+1) tO
 have o1:=h1
 have o2:=h2
 obtain ⟨a1,q1,e1,_⟩:=h1.seg
 obtain ⟨a2,q2,e2,_⟩:=h2.seg
 subst e1 e2
 have T:=Lib.hid T0
 clear h1 h2 T0
 go_enter Tryz.func260,Tryz.ntmps260
 go_wp2_with fail
 refine (T.out _ (zO o1 o1) (zO o2 o2) (by simp <;> omega)).mono ?_
 rintro _ w3 ⟨⟨y1,y2,rfl,aO,aQ,dH,dF⟩,hO⟩
 have hO3:gV (Value.slice a1 c.cells.length q1).ownBlock (Value.slice a2 c.words.length q2).ownBlock w w3:=fA (dA zB) hO
 have bM:=hO.2.2.2.1;(try (simp at bM));have zz:=Bl hO (b:=w.heap.size);(try simp [go_sem] at zz);replace bX:=dx zz;clear zz
 clear hO
 obtain ⟨⟨aD,aF⟩,dQ,dR⟩:=sO (w:=w) (w.heap.size+1+1+1+1) dH dF b1 b2;obtain ⟨ya,yp,rfl,_⟩:=aO.seg;obtain ⟨yb,yq,rfl,_⟩:=aQ.seg
 go_wp2
 refine rE Tryz.results260 rfl (az x.1 (.slice ya x.1.cells.length yp) (.slice yb x.1.words.length yq) tY) rfl (aj x.2.1 tY) ⟨⟨_,_,rfl,?_,?_,dQ,dR⟩,by exact zN⟩
 ·exact zP aO aO aD
 ·exact zP aQ aQ aF
theorem wV (c:Ch) (h:Ha) (v1 v2:Value) (lo:Nat) (w:World) (h1:ah w lo v1 c.cells) (h2:ai w lo v2 c.words) (hc:aG c=true) (hlo:lo≤w.heap.size) (hk:(h.code != 2)=false) (hq:(h.pos == 13)=true) :
  bY 260 c h v1 v2 lo w (BU c { h with pos:=14 } { h with pos:=15 }):=by
 have T0:=fun W a b hl=>vJ c { h with pos:=14 } { h with pos:=15 } v1 v2 lo W a b hc hl
 change ∀ W,_→_→_→Calls _ _ _ _ (fun r w'=>StepB W w' lo v1 v2 (BU c { h with pos:=14 } { h with pos:=15 }) r) at T0
 clear hc
 have n9:(h.pos == 9)=false:=by simp at hq ⊢;omega
 have n10:(h.pos == 10)=false:=by simp at hq ⊢;omega
 have n11:(h.pos == 11)=false:=by simp at hq ⊢;omega
 have n12:(h.pos == 12)=false:=by simp at hq ⊢;omega
 generalize BU c { h with pos:=14 } { h with pos:=15 }=x at *
 obtain ⟨a1,q1,a2,q2,rfl,rfl,O1,O2,b1,b2⟩:=qH h1 h2
 clear h1 h2
 have T:=Lib.hid T0
 clear T0
 have o1:=O1.out
 have o2:=O2.out
 go_enter Tryz.func260,Tryz.ntmps260
 go_upto_region 14 with fail
 refine bJ [[],[],[1],[],[3],[0,1,2,3,4],[0,1,2,3,4,5],[0,1,2,3,4,5],[0,1,2,3,4,5],[0,1,2,3,4,5,6],[0,1,2,3,4,5,7],[0,1,2,3,4,5,8]] [51,52,53,54,55,56,57,58,59,6] (fun l s wx=>(gV (Value.slice a1 c.cells.length q1).ownBlock (Value.slice a2 c.words.length q2).ownBlock w wx)∧(w.heap.size+1+1+1+1≤wx.heap.size)∧(hp wx w.heap.size=some (.cells (af c (.slice a1 c.cells.length q1) (.slice a2 c.words.length q2)) 31))∧(hp wx (w.heap.size+1)=some (.cells (aa h) 49))∧(hp wx (w.heap.size+1+1)=some (.cells (cond (l 9) (af x.1 (s 1003) (s 1004)) (af Ch.zero (.slice none 0 0) (.slice none 0 0))) 31))∧(hp wx (w.heap.size+1+1+1)=some (.cells (cond (l 10) (aa x.2.1) (aa Ha.zero)) 49))∧(l 5=false→ah wx lo (.slice a1 c.cells.length q1) c.cells)∧(l 5=false→ai wx lo (.slice a2 c.words.length q2) c.words)∧(l 0=true→s 51=.agg (af c (.slice a1 c.cells.length q1) (.slice a2 c.words.length q2)))∧(l 1=true→s 52=.agg (aa h))∧(l 2=true→s 53=.agg (aa ({ h with pos:=14 })))∧(l 3=true→s 54=.agg (aa h))∧(l 4=true→s 55=.agg (aa ({ h with pos:=15 })))∧(l 5=true→s 56=.tuple #[.agg (af x.1 (s 1003) (s 1004)),.agg (aa x.2.1),.bool x.2.2]∧ah wx lo (s 1003) x.1.cells∧ai wx lo (s 1004) x.1.words∧dY w (.slice a1 c.cells.length q1) (s 1003)∧dY w (.slice a2 c.words.length q2) (s 1004))∧(l 6=true→s 57=.agg (af x.1 (s 1003) (s 1004)))∧(l 7=true→s 58=.agg (aa x.2.1))∧(l 8=true→s 59=.bool x.2.2)∧(l 11=true→s 6=.bool x.2.2)) (by kernel_rfl) (by kernel_rfl) (by kernel_rfl) (fun s=>by (simp only [fill,gp,List.setIfInBounds_toArray,List.set_cons_zero,List.set_cons_succ];rfl)) (fun s=>⟨dA zB,by simp,by simp [go_sem, *],by simp [go_sem, *],by simp [go_sem, *],by simp [go_sem, *],fun _=>by exact zO o1 o1,fun _=>by exact zO o2 o2,nB,nB,nB,nB,nB,nB,nB,nB,nB,nB⟩) ?_ ?_
 refine ⟨?_,?_,?_,?_,?_,?_,?_,?_,?_,?_,?_,?_,trivial⟩;iterate 12 (intro l s wx hl hd hn hf K hK;rotate_left)
 ·intro l s wx hall hf
  have hO:=hf.1
  have z1:=hf.2.2.2.2.1
  have z2:=(jC hf).2.1
  rw [hall 9 rfl] at z1
  rw [hall 10 rfl] at z2
  dsimp only [cond] at z1 z2
  obtain ⟨_,X1,X2,F1,F2⟩:=((jC (jD hf)).2.1 (hall 5 rfl))
  have ec:=((jE hf).2 (hall 11 rfl))
  simp only [ec]
  clear ec hf hall
  go_wp2
  exact bodyPost_ret (lK Tryz.results260 rfl (az x.1 _ _ z1) rfl (aj x.2.1 z2)) rfl ⟨⟨_,_,rfl,X1,X2,F1,F2⟩,hO⟩
 ·have zc:=hf.out.2.2.1
  go_simp
  refine hK.out (upd s 51 (.agg (af c (.slice a1 c.cells.length q1) (.slice a2 c.words.length q2)))) _ _ (by simp [ae] <;> rfl) (kD (kX (fun _=>rfl) id) hf.out)
 ·have zh:=hf.out.2.2.2.1
  go_simp
  refine hK.out (upd s 52 (.agg (aa h))) _ _ (by simp [ae] <;> rfl) (kD (kA (kX (fun _=>rfl) id)) hf.out)
 ·have e1:=((jD hf.out).2.1 (hd 1 rfl))
  go_simp
  go_at_call 247
  refine (dm h 14 _).mono ?_
  rintro _ wy ⟨rfl,hE⟩
  refine hK.out (upd s 53 (.agg (aa ({ h with pos:=14 })))) _ _ (by simp [ae,e1] <;> rfl) (kX (fA hf.out.1 (dA hE)) (kX (Nat.le_trans hf.out.2.1 (Below.size hE)) (kX (fC hf.out.2.2.1 hE) (kX (fC hf.out.2.2.2.1 hE) (kX (fC hf.out.2.2.2.2.1 hE) (kX (fC (jC hf.out).2.1 hE) (kX (fun h9=>own_below ((jC hf.out).2.2.1 h9) hE) (kX (fun h9=>own_below ((jC hf.out).2.2.2.1 h9) hE) (kB (kX (fun _=>rfl) (kB (kX (nU (hn 5 rfl)) (kX (nU (hn 6 rfl)) (kX (nU (hn 7 rfl)) (kX (nU (hn 8 rfl)) (fun _=>nU (hn 11 rfl)))))))))))))))) hf.out)
 ·have zh:=hf.out.2.2.2.1
  go_simp
  refine hK.out (upd s 54 (.agg (aa h))) _ _ (by simp [ae] <;> rfl) (kD (kB (kA (kX (fun _=>rfl) id))) hf.out)
 ·have e3:=((jD hf.out).2.2.2.1 (hd 3 rfl))
  go_simp
  go_at_call 247
  refine (dm h 15 _).mono ?_
  rintro _ wy ⟨rfl,hE⟩
  refine hK.out (upd s 55 (.agg (aa ({ h with pos:=15 })))) _ _ (by simp [ae,e3] <;> rfl) (kX (fA hf.out.1 (dA hE)) (kX (Nat.le_trans hf.out.2.1 (Below.size hE)) (kX (fC hf.out.2.2.1 hE) (kX (fC hf.out.2.2.2.1 hE) (kX (fC hf.out.2.2.2.2.1 hE) (kX (fC (jC hf.out).2.1 hE) (kX (fun h9=>own_below ((jC hf.out).2.2.1 h9) hE) (kX (fun h9=>own_below ((jC hf.out).2.2.2.1 h9) hE) (kC (kX (fun _=>rfl) (kX (nU (hn 5 rfl)) (kX (nU (hn 6 rfl)) (kX (nU (hn 7 rfl)) (kX (nU (hn 8 rfl)) (fun _=>nU (hn 11 rfl))))))))))))))) hf.out)
 ·have e0:=((jD hf.out).1 (hd 0 rfl))
  have e2:=((jD hf.out).2.2.1 (hd 2 rfl))
  have e4:=((jC (jD hf.out)).1 (hd 4 rfl))
  go_simp
  go_at_call 253
  refine (T.out _ ((jC hf.out).2.2.1 hl) ((jC hf.out).2.2.2.1 hl) (Nat.le_trans hlo hf.out.1.2.2.2.1)).mono ?_
  rintro _ wy ⟨⟨y1,y2,rfl,X1,X2,F1,F2⟩,hE⟩
  have hO:=dA (a:=(Value.slice a1 c.cells.length q1).ownBlock) (b:=(Value.slice a2 c.words.length q2).ownBlock) hE
  refine hK.out (upd (upd (upd s 1003 (y1)) 1004 (y2)) 56 (.tuple #[.agg (af x.1 y1 y2),.agg (aa x.2.1),.bool x.2.2])) _ _ (by simp [ae,e0,e2,e4] <;> rfl) (kX (fA hf.out.1 hO) (kX (Nat.le_trans hf.out.2.1 hO.2.2.2.1) (kX (fG hf.out.2.2.1 hO ((jC hf.out).2.2.1 hl) ((jC hf.out).2.2.2.1 hl) (by decide) (by decide)) (kX (fG hf.out.2.2.2.1 hO ((jC hf.out).2.2.1 hl) ((jC hf.out).2.2.2.1 hl) (by decide) (by decide)) (kX (by (have ee:l 9=false:=hn 9 rfl);(have F:=hf.out.2.2.2.2.1);rw [ee] at F;rw [show upd l 5 true 9=false from ee];exact fG F hO ((jC hf.out).2.2.1 hl) ((jC hf.out).2.2.2.1 hl) (by decide) (by decide)) (kX (by (have ee:l 10=false:=hn 10 rfl);(have F:=(jC hf.out).2.1);rw [ee] at F;rw [show upd l 5 true 10=false from ee];exact fG F hO ((jC hf.out).2.2.1 hl) ((jC hf.out).2.2.2.1 hl) (by decide) (by decide)) (kX (fun h9=>nU h9 (show upd l 5 true 5=true from rfl)) (kX (fun h9=>nU h9 (show upd l 5 true 5=true from rfl)) (kC (kA (kX (fun _=>⟨rfl,X1,X2,fun j hj=>(F1 j hj).imp id (fun h=>Nat.le_trans hf.out.1.2.2.2.1 h),fun j hj=>(F2 j hj).imp id (fun h=>Nat.le_trans hf.out.1.2.2.2.1 h)⟩) (kX (nU (hn 6 rfl)) (kX (nU (hn 7 rfl)) (kX (nU (hn 8 rfl)) (fun _=>nU (hn 11 rfl))))))))))))))) hf.out)
 ·have e5:=((jC (jD hf.out)).2.1 (hd 5 rfl)).1
  go_simp
  refine hK.out (upd s 57 (.agg (af x.1 (s 1003) (s 1004)))) _ _ (by simp [ae,e5] <;> rfl) (kD (kC (kB (kX (fun _=>rfl) id))) hf.out)
 ·have e5:=((jC (jD hf.out)).2.1 (hd 5 rfl)).1
  go_simp
  refine hK.out (upd s 58 (.agg (aa x.2.1))) _ _ (by simp [ae,e5] <;> rfl) (kD (kC (kB (kA (kX (fun _=>rfl) id)))) hf.out)
 ·have e5:=((jC (jD hf.out)).2.1 (hd 5 rfl)).1
  go_simp
  refine hK.out (upd s 59 (.bool x.2.2)) _ _ (by simp [ae,e5] <;> rfl) (kE (kX (fun _=>rfl) id) hf.out)
 ·have e6:=((jC (jD hf.out)).2.2.1 (hd 6 rfl))
  have e5:=((jC (jD hf.out)).2.1 (hd 5 rfl))
  have X1:=e5.2.1
  have X2:=e5.2.2.1
  clear e5
  have zr:=hf.out.2.2.2.2.1
  rw [hl] at zr
  dsimp only [cond] at zr
  obtain ⟨xa,xp,ea,_⟩:=X1.seg
  obtain ⟨xb,xq,pI,_⟩:=X2.seg
  rw [ea,pI] at e6
  have zn:hp (bI wx (w.heap.size+1+1) (af x.1 (.slice xa x.1.cells.length xp) (.slice xb x.1.words.length xq))) (w.heap.size+1+1)=some (.cells (af x.1 (s 1003) (s 1004)) 31):=by rw [ea,pI];exact gQ zr
  have hO:=hf.out.1
  go_simp
  refine hK.out (s) _ _ (by simp [ae,e6,ea,pI] <;> rfl) (kX (oX hO tO) (kX (Nat.le_trans hf.out.2.1 (Nat.le_of_eq aI.symm)) (kX ((aL tO).trans hf.out.2.2.1) (kX ((aL tO).trans hf.out.2.2.2.1) (kX (zn) (kX ((aL tO).trans (jC hf.out).2.1) (kX (fun h9=>nU h9 (show upd l 9 true 5=true from hd 5 rfl)) (kX (fun h9=>nU h9 (show upd l 9 true 5=true from hd 5 rfl)) (kC (kA (kX (fun h=>(let ⟨e,X1,X2,F1,F2⟩:=(jC (jD hf.out)).2.1 h;⟨e,dG X1 zr (by decide),dG X2 zr (by decide),F1,F2⟩)) id)))))))))) hf.out)
 ·have e7:=((jC (jD hf.out)).2.2.2.1 (hd 7 rfl))
  have e5:=((jC (jD hf.out)).2.1 (hd 5 rfl))
  have X1:=e5.2.1
  have X2:=e5.2.2.1
  clear e5
  have zr:=(jC hf.out).2.1
  rw [hl] at zr
  dsimp only [cond] at zr
  have zn:hp (bI wx (w.heap.size+1+1+1) (aa x.2.1)) (w.heap.size+1+1+1)=some (.cells (aa x.2.1) 49):=by exact gQ zr
  have hO:=hf.out.1
  go_simp
  refine hK.out (s) _ _ (by simp [ae,e7] <;> rfl) (kX (oX hO tO) (kX (Nat.le_trans hf.out.2.1 (Nat.le_of_eq aI.symm)) (kX ((aL tO).trans hf.out.2.2.1) (kX ((aL tO).trans hf.out.2.2.2.1) (kX ((aL tO).trans hf.out.2.2.2.2.1) (kX (zn) (kX (fun h9=>nU h9 (show upd l 10 true 5=true from hd 5 rfl)) (kX (fun h9=>nU h9 (show upd l 10 true 5=true from hd 5 rfl)) (kC (kA (kX (fun h=>(let ⟨e,X1,X2,F1,F2⟩:=(jC (jD hf.out)).2.1 h;⟨e,dG X1 zr (by decide),dG X2 zr (by decide),F1,F2⟩)) id)))))))))) hf.out)
 ·have e8:=((jE hf.out).1 (hd 8 rfl))
  go_simp
  refine hK.out (upd s 6 (.bool x.2.2)) _ _ (by simp [ae,e8] <;> rfl) (kE (kA (fun _=>fun _=>rfl)) hf.out)
theorem wW (c:Ch) (h:Ha) (v1 v2:Value) (lo:Nat) (w:World) (h1:ah w lo v1 c.cells) (h2:ai w lo v2 c.words) (hc0:0≤h.cell) (hc1:h.cell<c.cells.length) (hk:(h.code != 2)=false) (hq:(h.pos == 14)=true) :
  bY 260 c h v1 v2 lo w ((bH c h.cell 7,dI h 0,true)):=by
 obtain ⟨i,hci⟩:∃ i:Nat,h.cell=(i:Int):=⟨h.cell.toNat,by omega⟩
 have hi:i<c.cells.length:=by omega
 have hi0:(0:Int)≤(i:Int):=by omega
 have hi1:(i:Int)<(c.cells.length:Int):=by omega
 have hne:=h1.ne h2
 obtain ⟨a2,q2,rfl,_⟩:=h2.seg
 obtain ⟨g,q1,rfl,hlo1,hlt,hcell,hfr⟩:=h1.open1 hi
 have O1:=Lib.hid h1
 have O2:=Lib.hid h2
 have jN:g<w.heap.size+1:=by omega
 have jO:g<w.heap.size+1+1:=by omega
 have jP:g<w.heap.size+1+1+1:=by omega
 have xV:g≠w.heap.size:=by omega
 have xW:g≠w.heap.size+1:=by omega
 have xX:g≠w.heap.size+1+1:=by omega
 have xY:g≠w.heap.size+1+1+1:=by omega
 have zo:w.heap.size≠g:=by omega
 have zq:w.heap.size+1≠g:=by omega
 have zt:w.heap.size+1+1≠g:=by omega
 have zu:w.heap.size+1+1+1≠g:=by omega
 have hx:Hid (cellAt c h.cell=c.cells.getD i ⟨0,0,0⟩):=by simp [cellAt,Hid,hci]
 have c0:=hcell 0 tO
 have c1:=hcell 1 tO
 have c2:=hcell 2 tO
 simp only [C3.val,Nat.add_zero] at c0 c1 c2
 rw [show bH c h.cell 7=bH c i 7 by rw [hci]]
 have e1:=iq c i 7
 have P1:=fun W (o:ah W lo (.slice (some ⟨g,0,none⟩) c.cells.length q1) c.cells)=>ah.setS o hi 7
 rw [← e1] at P1
 clear hx hcell h1 h2 e1
 generalize c.cells.getD i ⟨0,0,0⟩=x at *
 have o1:=O1.out
 have o2:=O2.out
 have n9:(h.pos == 9)=false:=by simp at hq ⊢;omega
 have n10:(h.pos == 10)=false:=by simp at hq ⊢;omega
 have n11:(h.pos == 11)=false:=by simp at hq ⊢;omega
 have n12:(h.pos == 12)=false:=by simp at hq ⊢;omega
 have n13:(h.pos == 13)=false:=by simp at hq ⊢;omega
 go_enter Tryz.func260,Tryz.ntmps260
 have P2:=bP (p:=⟨g,i*3,none⟩) o2 (hne g rfl) (.int .i64 7)
 go_wp2_with fail
 go_region_held3 (fun w'=>hp w' w.heap.size=some (.cells (af c (.slice (some ⟨g,0,none⟩) c.cells.length q1) (.slice a2 c.words.length q2)) 31)∧hp w' (w.heap.size+1)=some (.cells (aa h) 49))
  (first|(simp [*,go_sem]))
  (first|(go_at_call 264;refine (kQ h 0 _).mono ?_;rintro _ w1 ⟨rfl,ag⟩;have jJ:Gr g w w1:=gT zG (qz ag);have ak:=ag.size;(try (simp at ak));have zz:=hQ ag (b:=w.heap.size);(first|(simp [go_sem,bG,bV,hlt,jN,jO,jP] at zz)|(simp [go_sem,hlt,jN,jO,jP] at zz));(try clear di dC);(try clear bG);have bG:=zz;clear zz;(try clear bV);obtain ⟨di,dC,bV⟩:=bO bG;have zz:=hQ ag (b:=w.heap.size+1);(first|(simp [go_sem,dE,dz,hlt,jN,jO,jP] at zz)|(simp [go_sem,hlt,jN,jO,jP] at zz));(try clear dS dZ);(try clear dE);have dE:=zz;clear zz;(try clear dz);obtain ⟨dS,dZ,dz⟩:=bO dE;have zz:=hQ ag (b:=w.heap.size+1+1);(first|(simp [go_sem,bg,bW,hlt,jN,jO,jP] at zz)|(simp [go_sem,hlt,jN,jO,jP] at zz));(try clear dJ dK);(try clear bg);have bg:=zz;clear zz;(try clear bW);obtain ⟨dJ,dK,bW⟩:=bO bg;have zz:=hQ ag (b:=w.heap.size+1+1+1);(first|(simp [go_sem,aJ,bq,hlt,jN,jO,jP] at zz)|(simp [go_sem,hlt,jN,jO,jP] at zz));(try clear cu cz);(try clear aJ);have aJ:=zz;clear zz;(try clear bq);obtain ⟨cu,cz,bq⟩:=bO aJ;have p1:ah w1 lo (.slice (some ⟨g,0,none⟩) c.cells.length q1) (bH c i 7).cells:=own_below (by exact zO (P1 _ o1) o1) ag;have p2:ai w1 lo (.slice a2 c.words.length q2) c.words:=own_below (zO P2 o2) ag))
 go_wp2
 refine rE Tryz.results260 rfl (az (bH c i 7) (.slice (some ⟨g,0,none⟩) c.cells.length q1) (.slice a2 c.words.length q2) tZ) rfl (aj (dI h 0) (by simp [go_sem, *] <;> first|rfl|simp [dI,hci])) ⟨⟨_,_,rfl,?_,?_,av _ _,av _ _⟩,kS (show w.grownBy _ (some g) from zG)⟩
 ·show ah _ lo (.slice (some ⟨g,0,none⟩) c.cells.length q1) (bH c i 7).cells
  exact zO p1 o1
 ·show ai _ lo (.slice a2 c.words.length q2) c.words
  exact zO p2 o2
theorem wX (c:Ch) (h:Ha) (v1 v2:Value) (lo:Nat) (w:World) (h1:ah w lo v1 c.cells) (h2:ai w lo v2 c.words) (hc0:0≤h.cell) (hc1:h.cell<c.cells.length) (hcall:dO h.code h.elem=true) (hk:(h.code != 2)=false) (hq:(h.pos == 15)=true) :
  bY 260 c h v1 v2 lo w ((bH c h.cell 9,anew h,true)):=by
 obtain ⟨i,hci⟩:∃ i:Nat,h.cell=(i:Int):=⟨h.cell.toNat,by omega⟩
 have hi:i<c.cells.length:=by omega
 have hi0:(0:Int)≤(i:Int):=by omega
 have hi1:(i:Int)<(c.cells.length:Int):=by omega
 have hne:=h1.ne h2
 obtain ⟨a2,q2,rfl,_⟩:=h2.seg
 obtain ⟨g,q1,rfl,hlo1,hlt,hcell,hfr⟩:=h1.open1 hi
 have O1:=Lib.hid h1
 have O2:=Lib.hid h2
 have jN:g<w.heap.size+1:=by omega
 have jO:g<w.heap.size+1+1:=by omega
 have jP:g<w.heap.size+1+1+1:=by omega
 have xV:g≠w.heap.size:=by omega
 have xW:g≠w.heap.size+1:=by omega
 have xX:g≠w.heap.size+1+1:=by omega
 have xY:g≠w.heap.size+1+1+1:=by omega
 have zo:w.heap.size≠g:=by omega
 have zq:w.heap.size+1≠g:=by omega
 have zt:w.heap.size+1+1≠g:=by omega
 have zu:w.heap.size+1+1+1≠g:=by omega
 have hx:Hid (cellAt c h.cell=c.cells.getD i ⟨0,0,0⟩):=by simp [cellAt,Hid,hci]
 have c0:=hcell 0 tO
 have c1:=hcell 1 tO
 have c2:=hcell 2 tO
 simp only [C3.val,Nat.add_zero] at c0 c1 c2
 rw [show bH c h.cell 9=bH c i 9 by rw [hci]]
 have e1:=iq c i 9
 have P1:=fun W (o:ah W lo (.slice (some ⟨g,0,none⟩) c.cells.length q1) c.cells)=>ah.setS o hi 9
 rw [← e1] at P1
 clear hx hcell h1 h2 e1
 generalize c.cells.getD i ⟨0,0,0⟩=x at *
 have o1:=O1.out
 have o2:=O2.out
 obtain ⟨y0,hy0⟩:∃ y0,anew h=y0:=⟨_,rfl⟩
 have AN:=Lib.hid fun W=>rF h hcall W
 rw [hy0] at AN
 rw [hy0]
 clear hy0 hcall
 have n9:(h.pos == 9)=false:=by simp at hq ⊢;omega
 have n10:(h.pos == 10)=false:=by simp at hq ⊢;omega
 have n11:(h.pos == 11)=false:=by simp at hq ⊢;omega
 have n12:(h.pos == 12)=false:=by simp at hq ⊢;omega
 have n13:(h.pos == 13)=false:=by simp at hq ⊢;omega
 have n14:(h.pos == 14)=false:=by simp at hq ⊢;omega
 go_enter Tryz.func260,Tryz.ntmps260
 have P2:=bP (p:=⟨g,i*3,none⟩) o2 (hne g rfl) (.int .i64 9)
 go_wp2_with fail
 go_region_held3 (fun w'=>hp w' w.heap.size=some (.cells (af c (.slice (some ⟨g,0,none⟩) c.cells.length q1) (.slice a2 c.words.length q2)) 31)∧hp w' (w.heap.size+1)=some (.cells (aa h) 49))
  (first|(simp [*,go_sem]))
  (first|(go_at_call 250;refine (AN.out _).mono ?_;rintro _ w1 ⟨rfl,ag⟩;have jJ:Gr g w w1:=gT zG (qz ag);have ak:=ag.size;(try (simp at ak));have zz:=hQ ag (b:=w.heap.size);(first|(simp [go_sem,bG,bV,hlt,jN,jO,jP] at zz)|(simp [go_sem,hlt,jN,jO,jP] at zz));(try clear di dC);(try clear bG);have bG:=zz;clear zz;(try clear bV);obtain ⟨di,dC,bV⟩:=bO bG;have zz:=hQ ag (b:=w.heap.size+1);(first|(simp [go_sem,dE,dz,hlt,jN,jO,jP] at zz)|(simp [go_sem,hlt,jN,jO,jP] at zz));(try clear dS dZ);(try clear dE);have dE:=zz;clear zz;(try clear dz);obtain ⟨dS,dZ,dz⟩:=bO dE;have zz:=hQ ag (b:=w.heap.size+1+1);(first|(simp [go_sem,bg,bW,hlt,jN,jO,jP] at zz)|(simp [go_sem,hlt,jN,jO,jP] at zz));(try clear dJ dK);(try clear bg);have bg:=zz;clear zz;(try clear bW);obtain ⟨dJ,dK,bW⟩:=bO bg;have zz:=hQ ag (b:=w.heap.size+1+1+1);(first|(simp [go_sem,aJ,bq,hlt,jN,jO,jP] at zz)|(simp [go_sem,hlt,jN,jO,jP] at zz));(try clear cu cz);(try clear aJ);have aJ:=zz;clear zz;(try clear bq);obtain ⟨cu,cz,bq⟩:=bO aJ;have p1:ah w1 lo (.slice (some ⟨g,0,none⟩) c.cells.length q1) (bH c i 9).cells:=own_below (by exact zO (P1 _ o1) o1) ag;have p2:ai w1 lo (.slice a2 c.words.length q2) c.words:=own_below (zO P2 o2) ag))
 go_wp2
 refine rE Tryz.results260 rfl (az (bH c i 9) (.slice (some ⟨g,0,none⟩) c.cells.length q1) (.slice a2 c.words.length q2) tZ) rfl (aj y0 (by simp [go_sem, *] <;> first|rfl|simp [dI,hci])) ⟨⟨_,_,rfl,?_,?_,av _ _,av _ _⟩,kS (show w.grownBy _ (some g) from zG)⟩
 ·show ah _ lo (.slice (some ⟨g,0,none⟩) c.cells.length q1) (bH c i 9).cells
  exact zO p1 o1
 ·show ai _ lo (.slice a2 c.words.length q2) c.words
  exact zO p2 o2
theorem ig {c:Ch} {h:Ha}:ku (c,h,true)=done c h:=rfl
theorem rW {c:Ch} {st wt:Int} {y z:Ha}:ku (qA c st wt y z)=if bn c y.cell y.seen st wt then done (bf c y.cell y.seen st wt) y else done (bf c y.cell y.seen st wt) z:=by
 unfold qA
 cases ht:bn c y.cell y.seen st wt with
 | true=>rfl
 | false=>rw [jv ht];rfl
theorem jS:ku nothing=nothing:=by simp [ku,nothing,aG,fo,Ch.zero]
theorem Fe {c:Ch} {w word:Int} (h:eU c w word=false):dD c w word=c:=by simp [dD,h]
theorem Im {c:Ch} {h:Ha}:ku (zy c 4 (dI h 1) { h with pos:=10 })=done (eP c h 4 16 10).1 (qf (eP c h 4 16 10).2):=by
 unfold zy eP
 by_cases hf:80≤c.words.length
 ·simp only [hf,if_true];rfl
 ·simp only [hf,if_false]
  cases ht:bn c h.cell h.seen 4 (c.words.length+1) with
  | true =>
   rw [show bn c (dI h 1).cell (dI h 1).seen 4 (c.words.length+1)=true from ht]
   simp only [if_true]
   rfl
  | false =>
   rw [show bn c (dI h 1).cell (dI h 1).seen 4 (c.words.length+1)=false from ht]
   simp only [Bool.false_eq_true,if_false]
   rw [jv ht]
   rfl
theorem Cu (c:Ch) (h:Ha):ku (iT c h)=mJ c h:=by
 unfold iT mJ fu
 by_cases h2:h.seen=2
 ·simp only [h2,beq_self_eq_true,if_true,show ((2:Int) == 3)=false from rfl,Bool.false_eq_true,if_false]
  rw [rW]
  simp only [gL,h2,dI]
 by_cases h3:h.seen=3
 ·have e2:(h.seen == 2)=false:=by simpa using h2
  have e3:(h.seen == 3)=true:=by simpa using h3
  simp only [e2,e3,if_true,Bool.false_eq_true,if_false]
  rw [rW]
  rfl
 ·have e2:(h.seen == 2)=false:=by simpa using h2
  have e3:(h.seen == 3)=false:=by simpa using h3
  simp only [e2,e3,Bool.false_eq_true,if_false]
  split
  ·exact jS
  ·split
   ·rw [rW];rfl
   ·exact Im
theorem uo (c:Ch) (h:Ha) (hc:aG c=true) (hh:bF h=true):∃ x:St,dB c h=ku x∧∀ (v1 v2:Value) (lo:Nat) (W:World),ah W lo v1 c.cells→ai W lo v2 c.words→lo≤W.heap.size→Calls Tryz.prog 260 #[.agg (af c v1 v2),.agg (aa h)] W fun r w'=>cK W w' lo v1 v2 x r:=by
 cases hk:(h.code != 2) with
 | true =>
  have hk2:¬ h.code=2:=by simpa using hk
  have hno:aX c h 9 15 2=false:=by simp [aX,hk2]
  exact ⟨nothing,by rw [jS];simp [dB,aP,hno],fun v1 v2 lo W o1 o2 _=>wR c h v1 v2 lo W o1 o2 hk⟩
 | false =>
  have hk2:h.code=2:=by simpa using hk
  obtain ⟨hc0,P9⟩:=fE hh
  have hc1:h.cell<c.cells.length:=by have:=(iW hc).1;omega
  by_cases hr:9≤h.pos∧h.pos≤15
  ·have hok:aX c h 9 15 2=true:=by
    have:dL h.pos 9 15=true:=by simp [dL];omega
    simp [aX,hc,hh,this,hk2]
   have hcall:dO h.code h.elem=true:=by
    have:=hh
    simp only [bF,pW,Bool.and_eq_true,kJ] at this
    have h0:¬ h.pos=0:=by omega
    simp [h0] at this
    exact this.1.2
   have hps:h.pos=9∨h.pos=10∨h.pos=11∨h.pos=12∨h.pos=13∨h.pos=14∨h.pos=15:=by omega
   rcases hps with hp|hp|hp|hp|hp|hp|hp
   ·refine ⟨zM c h,?_,fun v1 v2 lo W o1 o2 _=>zQ c h v1 v2 lo W o1 o2 (zA hc) hk (by simpa using hp)⟩
    by_cases hg:c.got=40
    ·simp [dB,aP,hok,hp,vC,zM,hg,ig]
    ·simp [dB,aP,hok,hp,vC,zM,hg,ig]
   ·refine ⟨iR c h,?_,fun v1 v2 lo W o1 o2 _=>wS c h v1 v2 lo W o1 o2 hc0 hc1 hcall hk (by simpa using hp)⟩
    simp only [dB,aP,hok,hp,vD,iR]
    by_cases h6:(cellAt c h.cell).s=6
    ·simp [h6,ku,hc,hh]
    ·cases hv:(gz c h).2 with
     | true=>simp [h6,ig]
     | false=>simp [h6,jS]
   ·refine ⟨(c,{ h with come:=c.sent,pos:=12 },true),?_,fun v1 v2 lo W o1 o2 _=>wT c h v1 v2 lo W o1 o2 hk (by simpa using hp)⟩
    simp [dB,aP,hok,hp,ig]
   ·refine ⟨iT c h,?_,fun v1 v2 lo W o1 o2 hl=>wU c h v1 v2 lo W o1 o2 hc0 hc1 hc hl hk (by simpa using hp)⟩
    rw [Cu]
    simp [dB,hok,hp]
   ·refine ⟨BU c { h with pos:=14 } { h with pos:=15 },?_,fun v1 v2 lo W o1 o2 hl=>wV c h v1 v2 lo W o1 o2 hc hl hk (by simpa using hp)⟩
    unfold BU
    cases ht:eU c h.wait 1 with
    | true=>simp [dB,aP,hok,hp,vE,ht,ig]
    | false=>simp [dB,aP,hok,hp,vE,ht,ig,Fe ht]
   ·refine ⟨(bH c h.cell 7,dI h 0,true),?_,fun v1 v2 lo W o1 o2 _=>wW c h v1 v2 lo W o1 o2 hc0 hc1 hk (by simpa using hp)⟩
    simp [dB,aP,hok,hp,ig]
   ·refine ⟨(bH c h.cell 9,anew h,true),?_,fun v1 v2 lo W o1 o2 _=>wX c h v1 v2 lo W o1 o2 hc0 hc1 hcall hk (by simpa using hp)⟩
    simp [dB,aP,hok,hp,ig]
  ·have hno:aX c h 9 15 2=false:=by
    have:dL h.pos 9 15=false:=by simp [dL];omega
    simp [aX,this]
   have far:∀ k:Int,9≤k→k≤15→(h.pos == k)=false:=fun k h1 h2=>by simp;omega
   exact ⟨nothing,by rw [jS];simp [dB,aP,hno],fun v1 v2 lo W o1 o2 _=>um c h v1 v2 lo W o1 o2 hk (far 9 tO tO) (far 10 tO tO) (far 11 tO tO) (far 12 tO tO) (far 13 tO tO) (far 14 tO tO) (far 15 tO tO)⟩
theorem uu (c:Ch) (h:Ha) (a b:Option Addr) (p q:Nat) (w:World) (h1:eY w w.heap.size a c.cells) (z1:a=none→p=0) (h2:eZ w w.heap.size b c.words) (z2:b=none→q=0) (l1:c.cells.length≤maxLen) (l2:c.words.length≤maxLen) :
  Calls Tryz.prog 259 #[.agg (af c (.slice a c.cells.length p) (.slice b c.words.length q)),.agg (aa h)] w fun r w'=>bQ w w' (dB c h) r:=by
 have K:∀ (w:World),eY w w.heap.size a c.cells→(a=none→p=0)→eZ w w.heap.size b c.words→(b=none→q=0)→Calls Tryz.prog 236 #[.func (.func 260) #[] #[],.agg (af c (.slice a c.cells.length p) (.slice b c.words.length q)),.agg (aa h)] w fun r w'=>bQ w w' (dB c h) r:=by
  intro w h1 z1 h2 z2
  cases hc:aG c with
  | false =>
   rw [show dB c h=nothing by simp [dB,aP,aX,hc]]
   exact mR _ c h a b p q w h1 z1 h2 z2 l1 l2 hc
  | true =>
   cases hh:bF h with
   | false =>
    rw [show dB c h=nothing by simp [dB,aP,aX,hh]]
    exact mU _ c h a b p q w h1 z1 h2 z2 l1 l2 hc hh
   | true =>
    obtain ⟨x,e,HT⟩:=uo c h hc hh
    rw [e]
    exact mQ _ x c h a b p q w h1 z1 h2 z2 hc hh (fun args w=>by simp [go_sem]) HT
 generalize dB c h=x at *
 have T:=Lib.hid K
 have H1:=Lib.hid h1
 have H2:=Lib.hid h2
 have Z1:=Lib.hid z1
 have Z2:=Lib.hid z2
 clear h1 h2 z1 z2 K
 have d1:∀ j,(Value.slice none 0 0).ownBlock=some j→w.heap.size+1+1+1+1≤j:=fun j hj=>by cases hj
 have d2:=d1
 go_enter Tryz.func259,Tryz.ntmps259
 go_wp2_with fail;refine au w zB fun bb=>?_;refine (T.out _ (aT H1 bb) Z1.out (aT H2 bb) Z2.out).mono ?_;rintro _ w9 ⟨⟨y1,y2,rfl,aO,aQ,dH,dF⟩,eX⟩;obtain ⟨tT,jd,zz⟩:=dV bb eX (b:=w.heap.size);(try simp at jd);(try simp [go_sem] at zz);replace bX:=dx zz;clear zz eX bb
 replace aO:ah w9 w.heap.size y1 x.1.cells:=ay aO (by simp;omega)
 replace aQ:ai w9 w.heap.size y2 x.1.words:=ay aQ (by simp;omega)
 obtain ⟨⟨aD,aF⟩,dQ,dR⟩:=kH (w:=w) (w.heap.size+1+1+1+1) dH dF d1 d2;obtain ⟨ya,yp,rfl,_⟩:=aO.seg;obtain ⟨yb,yq,rfl,_⟩:=aQ.seg
 go_wp2
 refine rE Tryz.results259 rfl (az x.1 (.slice ya x.1.cells.length yp) (.slice yb x.1.words.length yq) tY) rfl (aj x.2.1 tY) ⟨⟨_,_,rfl,?_,?_,dQ,dR⟩,by exact zB⟩
 ·exact zP aO aO aD
 ·exact zP aQ aQ aF
end
section
open Go.RowKit
attribute [local simp] aI
attribute [local go_sem ↓] aH aU aM bz aN bB aA aK ax aB
theorem Kz (h:Ha) (w:World) (n1:(h.nxt == 1)=true):Calls Tryz.prog 271 #[.agg (aa h)] w fun r w'=>r=.returned (.agg (aa { h with pos:=23 }))∧Below w.heap.size w w':=by
 go_enter Tryz.func271,Tryz.ntmps271
 go_wp2_with fail;refine au w zB fun bb=>?_;refine (dm _ _ _).mono ?_;rintro _ w1 ⟨rfl,ag⟩;obtain ⟨aV,ak,zz⟩:=Bj bb ag (b:=w.heap.size);(try simp at ak);(try simp [go_sem] at zz);replace bX:=xU zz;clear zz ag bb
 go_wp2
 exact bodyPost_ret (gH Tryz.results271 rfl (aj { h with pos:=23 } tZ)) rfl ⟨rfl,by exact zB⟩
theorem K5 (h:Ha) (w:World) (n1:(h.nxt == 1)=false) (n2:(h.nxt == 2)=true) (hk:dO h.code h.elem=true):Calls Tryz.prog 271 #[.agg (aa h)] w fun r w'=>r=.returned (.agg (aa (anew h)))∧Below w.heap.size w w':=by
 obtain ⟨y0,hy0⟩:∃ y0,anew h=y0:=⟨_,rfl⟩
 have AN:=Lib.hid fun W=>rF h hk W
 rw [hy0] at AN
 rw [hy0]
 clear hy0 hk
 go_enter Tryz.func271,Tryz.ntmps271
 go_wp2_with fail;refine au w zB fun bb=>?_;refine (AN.out _).mono ?_;rintro _ w1 ⟨rfl,ag⟩;obtain ⟨aV,ak,zz⟩:=Bj bb ag (b:=w.heap.size);(try simp at ak);(try simp [go_sem] at zz);replace bX:=xU zz;clear zz ag bb
 go_wp2
 exact bodyPost_ret (gH Tryz.results271 rfl (aj y0 tZ)) rfl ⟨rfl,by exact zB⟩
theorem K6 (h:Ha) (w:World) (n1:(h.nxt == 1)=false) (n2:(h.nxt == 2)=false):Calls Tryz.prog 271 #[.agg (aa h)] w fun r w'=>r=.returned (.agg (aa (aS 2 h.out)))∧Below w.heap.size w w':=by
 go_enter Tryz.func271,Tryz.ntmps271
 go_wp2_with fail;refine au w zB fun bb=>?_;refine (gY _ _ _).mono ?_;rintro _ w1 ⟨rfl,ag⟩;obtain ⟨aV,ak,zz⟩:=Bj bb ag (b:=w.heap.size);(try simp at ak);(try simp [go_sem] at zz);replace bX:=xU zz;clear zz ag bb
 go_wp2
 exact bodyPost_ret (gH Tryz.results271 rfl (aj (aS 2 h.out) tZ)) rfl ⟨rfl,by exact zB⟩
theorem jX (h:Ha) (w:World) (hk:dO h.code h.elem=true) (hn:0≤h.nxt∧h.nxt≤2):Calls Tryz.prog 271 #[.agg (aa h)] w fun r w'=>r=.returned (.agg (aa (df h)))∧Below w.heap.size w w':=by
 by_cases h1:h.nxt=1
 ·rw [show df h={ h with pos:=23 } by simp [df,h1]]
  exact Kz h w (by simpa using h1)
 by_cases h2:h.nxt=2
 ·rw [show df h=anew h by simp [df,h2]]
  exact K5 h w (by simpa using h1) (by simpa using h2) hk
 ·have h0:h.nxt=0:=by omega
  rw [show df h=aS 2 h.out by simp [df,h0]]
  exact K6 h w (by simpa using h1) (by simpa using h2)
theorem rX (c:Ch) (h:Ha) (v1 v2:Value) (lo:Nat) (w:World) (h1:ah w lo v1 c.cells) (h2:ai w lo v2 c.words) (EC:0≤c.fin∧c.fin≤40) :
  bY 269 c h v1 v2 lo w (({ c with fin:=c.fin+1 },{ h with grow:=c.fin,pos:=17 },true)):=by
 obtain ⟨a1,q1,a2,q2,rfl,rfl,O1,O2,b1,b2⟩:=qH h1 h2
 clear h1 h2
 have o1:=O1.out
 have o2:=O2.out
 go_enter Tryz.func269,Tryz.ntmps269
 go_wp2_with fail
 go_region_held3 (fun w'=>hp w' w.heap.size=some (.cells (af { c with fin:=c.fin+1 } (.slice a1 c.cells.length q1) (.slice a2 c.words.length q2)) 31)∧hp w' (w.heap.size+1)=some (.cells (aa { h with grow:=c.fin }) 49))
  (first|(simp [*,go_sem]))
  (first|((go_at_call 247;refine au w zB fun bb=>?_;refine (dm _ _ _).mono ?_;rintro _ w1 ⟨rfl,ag⟩;obtain ⟨aV,ak,zz⟩:=dV bb ag (b:=w.heap.size);(try simp at ak);(try simp [go_sem] at zz);replace bX:=dx zz;clear zz;have eD:=aV;clear ag bb);have p1:=own_below o1 eD;have p2:=own_below o2 eD))
 go_wp2
 refine rE Tryz.results269 rfl (az { c with fin:=c.fin+1 } (.slice a1 c.cells.length q1) (.slice a2 c.words.length q2) tZ) rfl (aj { h with grow:=c.fin,pos:=17 } tZ) ⟨⟨_,_,rfl,?_,?_,av _ _,av _ _⟩,dA zB⟩
 ·exact zO p1 o1
 ·exact zO p2 o2
theorem zR (c:Ch) (h:Ha) (v1 v2:Value) (lo:Nat) (w:World) (h1:ah w lo v1 c.cells) (h2:ai w lo v2 c.words) (hs:(h.seen != 3)=true) :
  bY 270 c h v1 v2 lo w (nothing):=by
 have T:=Lib.hid fun W=>fO W lo v1 v2
 generalize nothing=x at *
 obtain ⟨a1,q1,a2,q2,rfl,rfl,o1,o2,b1,b2,m1,m2,m10,m20,m11,m21,m12,m22,m13,m23⟩:=Jh h1 h2
 clear h1 h2
 go_enter Tryz.func270,Tryz.ntmps270
 go_wp2_with fail
 refine (T.out _).mono ?_
 rintro _ w3 ⟨⟨y1,y2,rfl,aO,aQ,dH,dF⟩,aC⟩
 have hO3:gV (Value.slice a1 c.cells.length q1).ownBlock (Value.slice a2 c.words.length q2).ownBlock w w3:=fA (dA zB) (dA aC)
 have bM:=aC.size;(try simp at bM);have zz:=AZ aC (b:=w.heap.size);(try simp [go_sem] at zz);replace bX:=dx zz;clear zz aC
 obtain ⟨⟨aD,aF⟩,dQ,dR⟩:=sO (w:=w) (w.heap.size+1+1+1+1) dH dF b1 b2;obtain ⟨ya,yp,rfl,_⟩:=aO.seg;obtain ⟨yb,yq,rfl,_⟩:=aQ.seg
 go_wp2
 refine rE Tryz.results270 rfl (az x.1 (.slice ya x.1.cells.length yp) (.slice yb x.1.words.length yq) tY) rfl (aj x.2.1 tY) ⟨⟨_,_,rfl,?_,?_,dQ,dR⟩,by exact zN⟩
 ·exact zP aO aO aD
 ·exact zP aQ aQ aF
def Oh (c:Ch) (h:Ha) (f st wt:Int) (y z:Ha):St:=if bn c h.grow f st wt then (bf c h.grow f st wt,y,true) else (c,z,true)
theorem nM (c:Ch) (h:Ha) (v1 v2:Value) (lo:Nat) (w:World) (h1:ah w lo v1 c.cells) (h2:ai w lo v2 c.words) (hc0:0≤h.grow) (hc1:h.grow<c.cells.length) (hs:(h.seen != 3)=false) :
  (∀ (ht:bn c h.grow 3 6 (cellAt c h.grow).t=true),Calls Tryz.prog 270 #[.agg (af c v1 v2),.agg (aa h)] w fun r w'=>cK w w' lo v1 v2 ((bf c h.grow 3 6 (cellAt c h.grow).t,{ h with pos:=20 },true)) r) ∧
  (∀ (ht:bn c h.grow 3 6 (cellAt c h.grow).t=false),Calls Tryz.prog 270 #[.agg (af c v1 v2),.agg (aa h)] w fun r w'=>cK w w' lo v1 v2 ((bf c h.grow 3 6 (cellAt c h.grow).t,{ h with pos:=18 },true)) r):=by
 constructor
 case' left =>
  intro ht
  have mA:Hid (0=0):=rfl
 case' right =>
  intro ht
  have mB:Hid (0=0):=rfl
 all_goals
  obtain ⟨i,hci⟩:∃ i:Nat,h.grow=(i:Int):=⟨h.grow.toNat,by omega⟩
  have hi:i<c.cells.length:=by omega
  have hi0:(0:Int)≤(i:Int):=by omega
  have hi1:(i:Int)<(c.cells.length:Int):=by omega
  have hne:=h1.ne h2
  obtain ⟨a2,q2,rfl,_⟩:=h2.seg
  obtain ⟨g,q1,rfl,hlo1,hlt,hcell,hfr⟩:=h1.open1 hi
  have O1:=Lib.hid h1
  have O2:=Lib.hid h2
  have jN:g<w.heap.size+1:=by omega
  have jO:g<w.heap.size+1+1:=by omega
  have jP:g<w.heap.size+1+1+1:=by omega
  have xV:g≠w.heap.size:=by omega
  have xW:g≠w.heap.size+1:=by omega
  have xX:g≠w.heap.size+1+1:=by omega
  have xY:g≠w.heap.size+1+1+1:=by omega
  have zo:w.heap.size≠g:=by omega
  have zq:w.heap.size+1≠g:=by omega
  have zt:w.heap.size+1+1≠g:=by omega
  have zu:w.heap.size+1+1+1≠g:=by omega
  have hx:Hid (cellAt c h.grow=c.cells.getD i ⟨0,0,0⟩):=by simp [cellAt,Hid,hci]
  have c0:=hcell 0 tO
  have c1:=hcell 1 tO
  have c2:=hcell 2 tO
  simp only [C3.val,Nat.add_zero] at c0 c1 c2
  have ex:=hx.out
  rw [ex] at ht ⊢
  have T0:=fun W a b=>jM c i 3 6 (c.cells.getD i ⟨0,0,0⟩).t (.slice (some ⟨g,0,none⟩) c.cells.length q1) (.slice a2 c.words.length q2) lo W a b hi
  rw [hci] at ht
  rw [show bf c h.grow 3 6 (c.cells.getD i ⟨0,0,0⟩).t=bf c i 3 6 (c.cells.getD i ⟨0,0,0⟩).t by rw [hci]]
  rw [ht] at T0
  clear hx ex hcell h1 h2 ht
  generalize c.cells.getD i ⟨0,0,0⟩=x0 at *
  obtain ⟨ss,e,t⟩:=x0
  simp only at T0 c0 c1 c2 ⊢
  have TN:=Lib.hid T0
  clear T0
  have o1:=O1.out
  have o2:=O2.out
  have MO:=Lib.hid hci
  clear hci hc0 hc1
  go_enter Tryz.func270,Tryz.ntmps270
  have OP:some w.heap.size≠some g:=by simp;omega
  have OQ:some (w.heap.size+1)≠some g:=by simp;omega
  have OT:some (w.heap.size+1+1)≠some g:=by simp;omega
  have OU:some (w.heap.size+1+1+1)≠some g:=by simp;omega
  go_upto_region 3 with fail
  first
  | (replace mA:=mA;refine bJ [[],[],[1],[],[3],[],[5],[3,4,5,6],[3,4,5,6,7],[3,4,5,6,7,8],qB [8,9],qB [8,9,10]] [14,15,16,17,18,19,20,21,22,23,24,25] (fun l s wx=>(l 10=false→Below w.heap.size w wx)∧(hp wx w.heap.size=some (.cells (af c (.slice (some ⟨g,0,none⟩) c.cells.length q1) (.slice a2 c.words.length q2)) 31))∧(hp wx (w.heap.size+1)=some (.cells (aa h) 49))∧(hp wx (w.heap.size+1+1)=some (.cells (af Ch.zero (.slice none 0 0) (.slice none 0 0)) 31))∧(hp wx (w.heap.size+1+1+1)=some (.cells (aa Ha.zero) 49))∧(l 0=true→s 14=.agg (af c (.slice (some ⟨g,0,none⟩) c.cells.length q1) (.slice a2 c.words.length q2)))∧(l 1=true→s 15=.pointer (some ⟨w.heap.size+1,8,none⟩))∧(l 2=true→s 16=.int .i64 i)∧(l 3=true→s 17=.pointer (some ⟨w.heap.size,4,none⟩))∧(l 4=true→s 18=.slice (some ⟨g,0,none⟩) c.cells.length q1)∧(l 5=true→s 19=.pointer (some ⟨w.heap.size+1,8,none⟩))∧(l 6=true→s 20=.int .i64 i)∧(l 7=true→s 21=.pointer (some ⟨g,i*3,none⟩))∧(l 8=true→s 22=.pointer (some ⟨g,i*3+2,none⟩))∧(l 9=true→s 23=.int .i64 t)∧(l 10=true→s 24=.bool true∧Gr g w wx∧ah wx lo (.slice (some ⟨g,0,none⟩) c.cells.length q1) (bf c i 3 6 t).cells∧ai wx lo (.slice a2 c.words.length q2) c.words)∧(l 11=true→s 25=.bool false)) (by kernel_rfl) (by kernel_rfl) (by kernel_rfl) (fun s=>by (simp only [fill,gp,List.setIfInBounds_toArray,List.set_cons_zero,List.set_cons_succ];rfl)) (fun s=>⟨fun _=>by exact zB,by simp [go_sem],by simp [go_sem],by simp [go_sem],by simp [go_sem],nB,nB,nB,nB,nB,nB,nB,nB,nB,nB,nB,nB⟩) ?_ ?_)
  | (replace mB:=mB;refine bJ [[],[],[1],[],[3],[],[5],[3,4,5,6],[3,4,5,6,7],[3,4,5,6,7,8],qB [8,9],qB [8,9,10]] [14,15,16,17,18,19,20,21,22,23,24,25] (fun l s wx=>(l 10=false→Below w.heap.size w wx)∧(hp wx w.heap.size=some (.cells (af c (.slice (some ⟨g,0,none⟩) c.cells.length q1) (.slice a2 c.words.length q2)) 31))∧(hp wx (w.heap.size+1)=some (.cells (aa h) 49))∧(hp wx (w.heap.size+1+1)=some (.cells (af Ch.zero (.slice none 0 0) (.slice none 0 0)) 31))∧(hp wx (w.heap.size+1+1+1)=some (.cells (aa Ha.zero) 49))∧(l 0=true→s 14=.agg (af c (.slice (some ⟨g,0,none⟩) c.cells.length q1) (.slice a2 c.words.length q2)))∧(l 1=true→s 15=.pointer (some ⟨w.heap.size+1,8,none⟩))∧(l 2=true→s 16=.int .i64 i)∧(l 3=true→s 17=.pointer (some ⟨w.heap.size,4,none⟩))∧(l 4=true→s 18=.slice (some ⟨g,0,none⟩) c.cells.length q1)∧(l 5=true→s 19=.pointer (some ⟨w.heap.size+1,8,none⟩))∧(l 6=true→s 20=.int .i64 i)∧(l 7=true→s 21=.pointer (some ⟨g,i*3,none⟩))∧(l 8=true→s 22=.pointer (some ⟨g,i*3+2,none⟩))∧(l 9=true→s 23=.int .i64 t)∧(l 10=true→s 24=.bool false∧Gr g w wx∧ah wx lo (.slice (some ⟨g,0,none⟩) c.cells.length q1) (bf c i 3 6 t).cells∧ai wx lo (.slice a2 c.words.length q2) c.words)∧(l 11=true→s 25=.bool true)) (by kernel_rfl) (by kernel_rfl) (by kernel_rfl) (fun s=>by (simp only [fill,gp,List.setIfInBounds_toArray,List.set_cons_zero,List.set_cons_succ];rfl)) (fun s=>⟨fun _=>by exact zB,by simp [go_sem],by simp [go_sem],by simp [go_sem],by simp [go_sem],nB,nB,nB,nB,nB,nB,nB,nB,nB,nB,nB,nB⟩) ?_ ?_)
  refine ⟨?_,?_,?_,?_,?_,?_,?_,?_,?_,?_,?_,?_,trivial⟩;iterate 12 (intro l s wx hl hd hn hf K hK;rotate_left)
  ·intro l s w5 hall hf
   obtain ⟨_,Qi,r1,r2⟩:=((jC (jD hf)).2.2.2.1 (hall 10 rfl))
   have bG:=hf.2.1
   have dE:=hf.2.2.1
   have bg:=hf.2.2.2.1
   have aJ:=hf.2.2.2.2.1
   have ec:=((jE hf) (hall 11 rfl))
   simp only [ec]
   clear hf hall ec
   obtain ⟨di,dC,bV⟩:=bO bG
   obtain ⟨dS,dZ,dz⟩:=bO dE
   obtain ⟨dJ,dK,bW⟩:=bO bg
   obtain ⟨cu,cz,bq⟩:=bO aJ
   go_wp2_with fail
   go_region_held3 (fun w'=>hp w' w.heap.size=some (.cells (af c (.slice (some ⟨g,0,none⟩) c.cells.length q1) (.slice a2 c.words.length q2)) 31)∧hp w' (w.heap.size+1)=some (.cells (aa h) 49))
    (first|(simp [*,go_sem]))
    (first|(go_at_call 247;refine (dm _ _ _).mono ?_;rintro _ w6 ⟨rfl,fZ⟩;have OV:Gr g w w6:=gT zG (qz fZ);have rY:=fZ.size;(try (simp at rY));have zz:=hQ fZ (b:=w.heap.size);(first|(simp [go_sem,bG,bV] at zz)|(simp [go_sem] at zz));(try clear di dC);(try clear bG);have bG:=zz;clear zz;(try clear bV);obtain ⟨di,dC,bV⟩:=bO bG;have zz:=hQ fZ (b:=w.heap.size+1);(first|(simp [go_sem,dE,dz] at zz)|(simp [go_sem] at zz));(try clear dS dZ);(try clear dE);have dE:=zz;clear zz;(try clear dz);obtain ⟨dS,dZ,dz⟩:=bO dE;have zz:=hQ fZ (b:=w.heap.size+1+1);(first|(simp [go_sem,bg,bW] at zz)|(simp [go_sem] at zz));(try clear dJ dK);(try clear bg);have bg:=zz;clear zz;(try clear bW);obtain ⟨dJ,dK,bW⟩:=bO bg;have zz:=hQ fZ (b:=w.heap.size+1+1+1);(first|(simp [go_sem,aJ,bq] at zz)|(simp [go_sem] at zz));(try clear cu cz);(try clear aJ);have aJ:=zz;clear zz;(try clear bq);obtain ⟨cu,cz,bq⟩:=bO aJ;have p1:ah w6 lo (.slice (some ⟨g,0,none⟩) c.cells.length q1) (bf c i 3 6 t).cells:=own_below (zO r1 o1) fZ;have p2:ai w6 lo (.slice a2 c.words.length q2) c.words:=own_below (zO r2 o2) fZ))
   go_wp2
   first
   | (replace mA:=mA;refine rE Tryz.results270 rfl (az (bf c i 3 6 t) (.slice (some ⟨g,0,none⟩) c.cells.length q1) (.slice a2 c.words.length q2) tZ) rfl (aj { h with pos:=20 } tZ) ⟨⟨_,_,rfl,?_,?_,av _ _,av _ _⟩,kS (show w.grownBy _ (some g) from zG)⟩)
   | (replace mB:=mB;refine rE Tryz.results270 rfl (az (bf c i 3 6 t) (.slice (some ⟨g,0,none⟩) c.cells.length q1) (.slice a2 c.words.length q2) tZ) rfl (aj { h with pos:=18 } tZ) ⟨⟨_,_,rfl,?_,?_,av _ _,av _ _⟩,kS (show w.grownBy _ (some g) from zG)⟩)
   ·show ah _ lo (.slice (some ⟨g,0,none⟩) c.cells.length q1) (bf c i 3 6 t).cells
    exact zO p1 o1
   ·show ai _ lo (.slice a2 c.words.length q2) c.words
    exact zO p2 o2
  ·have hB:=hf.out.1 (hn 10 rfl)
   have zc:=hf.out.2.1
   go_simp
   refine hK.out (upd s 14 (.agg (af c (.slice (some ⟨g,0,none⟩) c.cells.length q1) (.slice a2 c.words.length q2)))) _ _ (by simp [ae] <;> rfl) (kC (kA (kX (fun _=>rfl) id)) hf.out)
  ·have hB:=hf.out.1 (hn 10 rfl)
   go_simp
   refine hK.out (upd s 15 (.pointer (some ⟨w.heap.size+1,8,none⟩))) _ _ (by simp [ae] <;> rfl) (kC (kB (kX (fun _=>rfl) id)) hf.out)
  ·have e1:=((jC hf.out).2.2.1 (hd 1 rfl))
   have hB:=hf.out.1 (hn 10 rfl)
   have zh:=hf.out.2.2.1
   have q:wx.cell? ⟨w.heap.size+1,8,none⟩=some (.int .i64 i):=by rw [← MO.out];exact (bO zh).1 8
   go_simp
   refine hK.out (upd s 16 (.int .i64 i)) _ _ (by simp [ae,e1] <;> rfl) (kC (kB (kA (kX (fun _=>rfl) id))) hf.out)
  ·have hB:=hf.out.1 (hn 10 rfl)
   go_simp
   refine hK.out (upd s 17 (.pointer (some ⟨w.heap.size,4,none⟩))) _ _ (by simp [ae] <;> rfl) (kD (kX (fun _=>rfl) id) hf.out)
  ·have e3:=((jD hf.out).1 (hd 3 rfl))
   have hB:=hf.out.1 (hn 10 rfl)
   have zc:=hf.out.2.1
   have q:=(bO zc).1 4
   go_simp
   refine hK.out (upd s 18 (.slice (some ⟨g,0,none⟩) c.cells.length q1)) _ _ (by simp [ae,e3] <;> rfl) (kD (kA (kX (fun _=>rfl) id)) hf.out)
  ·have hB:=hf.out.1 (hn 10 rfl)
   go_simp
   refine hK.out (upd s 19 (.pointer (some ⟨w.heap.size+1,8,none⟩))) _ _ (by simp [ae] <;> rfl) (kD (kB (kX (fun _=>rfl) id)) hf.out)
  ·have e5:=((jD hf.out).2.2.1 (hd 5 rfl))
   have hB:=hf.out.1 (hn 10 rfl)
   have zh:=hf.out.2.2.1
   have q:wx.cell? ⟨w.heap.size+1,8,none⟩=some (.int .i64 i):=by rw [← MO.out];exact (bO zh).1 8
   go_simp
   refine hK.out (upd s 20 (.int .i64 i)) _ _ (by simp [ae,e5] <;> rfl) (kD (kB (kA (kX (fun _=>rfl) id))) hf.out)
  ·have e4:=((jD hf.out).2.1 (hd 4 rfl))
   have e6:=((jD hf.out).2.2.2.1 (hd 6 rfl))
   have hB:=hf.out.1 (hn 10 rfl)
   go_simp
   refine hK.out (upd s 21 (.pointer (some ⟨g,i*3,none⟩))) _ _ (by simp [ae,e4,e6] <;> rfl) (kD (kC (kX (fun _=>rfl) id)) hf.out)
  ·have e7:=((jC (jD hf.out)).1 (hd 7 rfl))
   have hB:=hf.out.1 (hn 10 rfl)
   go_simp
   refine hK.out (upd s 22 (.pointer (some ⟨g,i*3+2,none⟩))) _ _ (by simp [ae,e7] <;> rfl) (kD (kC (kA (kX (fun _=>rfl) id))) hf.out)
  ·have e8:=((jC (jD hf.out)).2.1 (hd 8 rfl))
   have hB:=hf.out.1 (hn 10 rfl)
   have y0:=(hB.cell (p:=⟨g,i*3+2,none⟩) hlt).trans c2
   go_simp
   refine hK.out (upd s 23 (.int .i64 t)) _ _ (by simp [ae,e8] <;> rfl) (kD (kC (kB (kX (fun _=>rfl) id))) hf.out)
  ·have e0:=((jC hf.out).2.1 (hd 0 rfl))
   have e2:=((jC hf.out).2.2.2.1 (hd 2 rfl))
   have e9:=((jC (jD hf.out)).2.2.1 (hd 9 rfl))
   have hB:=hf.out.1 hl
   go_simp
   go_at_call 254
   refine (TN.out _ (own_below o1 hB) (own_below o2 hB)).mono ?_
   rintro _ wy ⟨rfl,p1,p2,hgw⟩
   first
   | (replace mA:=mA;refine hK.out (upd s 24 (.bool true)) _ _ (by simp [ae,e0,e2,e9] <;> rfl) (kX (fun h9=>nU h9 (show upd l 10 true 10=true from rfl)) (kX ((dN hgw (bO hf.out.2.1).2.2 OP).trans hf.out.2.1) (kX ((dN hgw (bO hf.out.2.2.1).2.2 OQ).trans hf.out.2.2.1) (kX ((dN hgw (bO hf.out.2.2.2.1).2.2 OT).trans hf.out.2.2.2.1) (kX ((dN hgw (bO hf.out.2.2.2.2.1).2.2 OU).trans hf.out.2.2.2.2.1) (kD (kB (kX (fun _=>⟨rfl,gT (qz hB) hgw,p1,p2⟩) (fun _=>nU (hn 11 rfl))))))))) hf.out))
   | (replace mB:=mB;refine hK.out (upd s 24 (.bool false)) _ _ (by simp [ae,e0,e2,e9] <;> rfl) (kX (fun h9=>nU h9 (show upd l 10 true 10=true from rfl)) (kX ((dN hgw (bO hf.out.2.1).2.2 OP).trans hf.out.2.1) (kX ((dN hgw (bO hf.out.2.2.1).2.2 OQ).trans hf.out.2.2.1) (kX ((dN hgw (bO hf.out.2.2.2.1).2.2 OT).trans hf.out.2.2.2.1) (kX ((dN hgw (bO hf.out.2.2.2.2.1).2.2 OU).trans hf.out.2.2.2.2.1) (kD (kB (kX (fun _=>⟨rfl,gT (qz hB) hgw,p1,p2⟩) (fun _=>nU (hn 11 rfl))))))))) hf.out))
  ·have e10:=((jC (jD hf.out)).2.2.2.1 (hd 10 rfl)).1
   go_simp
   first
   | (replace mA:=mA;refine hK.out (upd s 25 (.bool false)) _ _ (by simp [ae,e10] <;> rfl) (kE (fun _=>fun _=>rfl) hf.out))
   | (replace mB:=mB;refine hK.out (upd s 25 (.bool true)) _ _ (by simp [ae,e10] <;> rfl) (kE (fun _=>fun _=>rfl) hf.out))
theorem wY (c:Ch) (h:Ha) (v1 v2:Value) (lo:Nat) (w:World) (h1:ah w lo v1 c.cells) (h2:ai w lo v2 c.words) (hc0:0≤h.grow) (hc1:h.grow<c.cells.length) (hs:(h.seen != 3)=false) (ht:bn c h.grow 3 6 (cellAt c h.grow).t=true) :
  Calls Tryz.prog 270 #[.agg (af c v1 v2),.agg (aa h)] w fun r w'=>cK w w' lo v1 v2 ((bf c h.grow 3 6 (cellAt c h.grow).t,{ h with pos:=20 },true)) r:=(nM c h v1 v2 lo w h1 h2 hc0 hc1 hs).1 ht
theorem wZ (c:Ch) (h:Ha) (v1 v2:Value) (lo:Nat) (w:World) (h1:ah w lo v1 c.cells) (h2:ai w lo v2 c.words) (hc0:0≤h.grow) (hc1:h.grow<c.cells.length) (hs:(h.seen != 3)=false) (ht:bn c h.grow 3 6 (cellAt c h.grow).t=false) :
  Calls Tryz.prog 270 #[.agg (af c v1 v2),.agg (aa h)] w fun r w'=>cK w w' lo v1 v2 ((bf c h.grow 3 6 (cellAt c h.grow).t,{ h with pos:=18 },true)) r:=(nM c h v1 v2 lo w h1 h2 hc0 hc1 hs).2 ht
def lv (c:Ch) (h:Ha):St:=if h.seen=3 then Oh c h 3 6 (cellAt c h.grow).t { h with pos:=20 } { h with pos:=18 } else nothing
theorem xg (c:Ch) (h:Ha) (v1 v2:Value) (lo:Nat) (w:World) (h1:ah w lo v1 c.cells) (h2:ai w lo v2 c.words) (hc0:0≤h.grow) (hc1:h.grow<c.cells.length) :
  bY 270 c h v1 v2 lo w (lv c h):=by
 by_cases hs:h.seen=3
 ·have e:(h.seen != 3)=false:=by simp [hs]
  cases ht:bn c h.grow 3 6 (cellAt c h.grow).t with
  | true =>
   rw [show lv c h=(bf c h.grow 3 6 (cellAt c h.grow).t,{ h with pos:=20 },true) by simp [lv,Oh,hs,ht]]
   exact wY c h v1 v2 lo w h1 h2 hc0 hc1 e ht
  | false =>
   have:=wZ c h v1 v2 lo w h1 h2 hc0 hc1 e ht
   rw [jv ht] at this
   rw [show lv c h=(c,{ h with pos:=18 },true) by simp [lv,Oh,hs,ht]]
   exact this
 ·rw [show lv c h=nothing by simp [lv,hs]]
  exact zR c h v1 v2 lo w h1 h2 (by simpa using hs)
end
section
open Go.RowKit
attribute [local simp] aI
attribute [local go_sem ↓] aH aU aM bz aN bB aA aK ax aB
theorem uw (c:Ch) (h:Ha) (v1 v2:Value) (lo:Nat) (w:World) (h1:ah w lo v1 c.cells) (h2:ai w lo v2 c.words) (hg:(c.cap == 0)=true) (hcall:dO h.code h.elem=true) (hnx:0≤h.nxt∧h.nxt≤2) (hq:(h.pos == 16)=true) (hk:(h.code != 2)=false) :
    bY 268 c h v1 v2 lo w ((c,df h,true)):=by
  obtain ⟨y0,hy0⟩:∃ y0,df h=y0:=⟨_,rfl⟩
  have GR:=Lib.hid fun W=>jX h W hcall hnx
  rw [hy0] at GR
  rw [hy0]
  clear hy0 hcall hnx
  obtain ⟨a1,q1,a2,q2,rfl,rfl,O1,O2,b1,b2⟩:=qH h1 h2
  clear h1 h2
  have o1:=O1.out
  have o2:=O2.out
  go_enter Tryz.func268,Tryz.ntmps268
  go_wp2
  go_step3
  go_wp2
  go_step3
  go_wp2
  refine wp_loop_rounds 2 ?_
  rw [rounds_succ]
  go_wp2_with fail
  rw [rounds_succ]
  go_wp2_with fail
  go_region_held3 (fun w'=>hp w' w.heap.size=some (.cells (af c (.slice a1 c.cells.length q1) (.slice a2 c.words.length q2)) 31)∧hp w' (w.heap.size+1)=some (.cells (aa h) 49))
    (first|(simp [*,go_sem]))
    (first|((go_at_call 271;refine au w zB fun bb=>?_;refine (GR.out _).mono ?_;rintro _ w2 ⟨rfl,hbw2⟩;obtain ⟨dh,aR,zz⟩:=dV bb hbw2 (b:=w.heap.size);(try simp at aR);(try simp [go_sem] at zz);replace bX:=dx zz;clear zz;have dW:=dh;clear hbw2 bb);have r1:=own_below o1 dW;have r2:=own_below o2 dW))
  go_wp2
  try rw [Exit.noGoto_ret]
  refine rE Tryz.results268 rfl (az c (.slice a1 c.cells.length q1) (.slice a2 c.words.length q2) tZ) rfl (aj y0 tZ) ⟨⟨_,_,rfl,?_,?_,av _ _,av _ _⟩,dA zB⟩
  · exact zO r1 o1
  · exact zO r2 o2
theorem uy (c:Ch) (h:Ha) (v1 v2:Value) (lo:Nat) (w:World) (h1:ah w lo v1 c.cells) (h2:ai w lo v2 c.words) (hg:(c.cap == 0)=false) (hf:(c.fin == 40)=true) (hcall:dO h.code h.elem=true) (hnx:0≤h.nxt∧h.nxt≤2) (hq:(h.pos == 16)=true) (hk:(h.code != 2)=false) :
    bY 268 c h v1 v2 lo w ((c,df h,true)):=by
  obtain ⟨y0,hy0⟩:∃ y0,df h=y0:=⟨_,rfl⟩
  have GR:=Lib.hid fun W=>jX h W hcall hnx
  rw [hy0] at GR
  rw [hy0]
  clear hy0 hcall hnx
  obtain ⟨a1,q1,a2,q2,rfl,rfl,O1,O2,b1,b2⟩:=qH h1 h2
  clear h1 h2
  have o1:=O1.out
  have o2:=O2.out
  go_enter Tryz.func268,Tryz.ntmps268
  go_wp2
  go_step3
  go_wp2
  go_step3
  go_wp2
  refine wp_loop_rounds 2 ?_
  rw [rounds_succ]
  go_wp2_with fail
  rw [rounds_succ]
  go_wp2_with fail
  go_region_held3 (fun w'=>hp w' w.heap.size=some (.cells (af c (.slice a1 c.cells.length q1) (.slice a2 c.words.length q2)) 31)∧hp w' (w.heap.size+1)=some (.cells (aa h) 49))
    (first|(simp [*,go_sem]))
    (first|((go_at_call 271;refine au w zB fun bb=>?_;refine (GR.out _).mono ?_;rintro _ w2 ⟨rfl,hbw2⟩;obtain ⟨dh,aR,zz⟩:=dV bb hbw2 (b:=w.heap.size);(try simp at aR);(try simp [go_sem] at zz);replace bX:=dx zz;clear zz;have dW:=dh;clear hbw2 bb);have r1:=own_below o1 dW;have r2:=own_below o2 dW))
  go_wp2
  try rw [Exit.noGoto_ret]
  refine rE Tryz.results268 rfl (az c (.slice a1 c.cells.length q1) (.slice a2 c.words.length q2) tZ) rfl (aj y0 tZ) ⟨⟨_,_,rfl,?_,?_,av _ _,av _ _⟩,dA zB⟩
  · exact zO r1 o1
  · exact zO r2 o2
theorem uz (c:Ch) (h:Ha) (v1 v2:Value) (lo:Nat) (w:World) (h1:ah w lo v1 c.cells) (h2:ai w lo v2 c.words) (EC:0≤c.fin∧c.fin≤40) (hg:(c.cap == 0)=false) (hf:(c.fin == 40)=false) (hq:(h.pos == 16)=true) (hk:(h.code != 2)=false) :
    bY 268 c h v1 v2 lo w (({ c with fin:=c.fin+1 },{ h with grow:=c.fin,pos:=17 },true)):=by
  have T:=Lib.hid fun W a b=>rX c h v1 v2 lo W a b EC
  change Hid (∀ W,_→_→Calls _ _ _ _ (fun r w'=>cK W w' lo v1 v2 (({ c with fin:=c.fin+1 },{ h with grow:=c.fin,pos:=17 },true)) r)) at T
  clear EC
  generalize ({ c with fin:=c.fin+1 },{ h with grow:=c.fin,pos:=17 },true)=x at *
  obtain ⟨a1,q1,a2,q2,rfl,rfl,o1,o2,b1,b2,m1,m2,m10,m20,m11,m21,m12,m22,m13,m23⟩:=Jh h1 h2
  clear h1 h2
  go_enter Tryz.func268,Tryz.ntmps268
  go_wp2
  go_step3
  go_wp2
  go_step3
  go_wp2
  refine wp_loop_rounds 2 ?_
  rw [rounds_succ]
  go_wp2_with fail
  refine (T.out _ (zO o1 o1) (zO o2 o2)).mono ?_
  rintro _ w3 ⟨⟨y1,y2,rfl,aO,aQ,dH,dF⟩,hO⟩
  have hO3:gV (Value.slice a1 c.cells.length q1).ownBlock (Value.slice a2 c.words.length q2).ownBlock w w3:=fA (dA zB) hO
  have bM:=hO.2.2.2.1;(try (simp at bM));have zz:=Bl hO (b:=w.heap.size);(try simp [go_sem] at zz);replace bX:=dx zz;clear zz
  clear hO
  obtain ⟨⟨aD,aF⟩,dQ,dR⟩:=sO (w:=w) (w.heap.size+1+1+1+1) dH dF b1 b2;obtain ⟨ya,yp,rfl,_⟩:=aO.seg;obtain ⟨yb,yq,rfl,_⟩:=aQ.seg
  go_wp2
  try rw [Exit.noGoto_ret]
  refine rE Tryz.results268 rfl (az x.1 (.slice ya x.1.cells.length yp) (.slice yb x.1.words.length yq) tY) rfl (aj x.2.1 tY) ⟨⟨_,_,rfl,?_,?_,dQ,dR⟩,by exact zN⟩
  · exact zP aO aO aD
  · exact zP aQ aQ aF
theorem uA (c:Ch) (h:Ha) (v1 v2:Value) (lo:Nat) (w:World) (h1:ah w lo v1 c.cells) (h2:ai w lo v2 c.words) (hg:c.sent≤h.grow) (hcall:dO h.code h.elem=true) (hnx:0≤h.nxt∧h.nxt≤2) (hq:(h.pos == 17)=true) (hk:(h.code != 2)=false) :
    bY 268 c h v1 v2 lo w ((c,df h,true)):=by
  obtain ⟨y0,hy0⟩:∃ y0,df h=y0:=⟨_,rfl⟩
  have GR:=Lib.hid fun W=>jX h W hcall hnx
  rw [hy0] at GR
  rw [hy0]
  clear hy0 hcall hnx
  have n16:(h.pos == 16)=false:=by simp at hq ⊢;omega
  obtain ⟨a1,q1,a2,q2,rfl,rfl,O1,O2,b1,b2⟩:=qH h1 h2
  clear h1 h2
  have o1:=O1.out
  have o2:=O2.out
  go_enter Tryz.func268,Tryz.ntmps268
  go_wp2
  go_step3
  go_wp2
  go_step3
  go_wp2
  refine wp_loop_rounds 2 ?_
  rw [rounds_succ]
  go_wp2_with fail
  rw [rounds_succ]
  go_wp2_with fail
  go_region_held3 (fun w'=>hp w' w.heap.size=some (.cells (af c (.slice a1 c.cells.length q1) (.slice a2 c.words.length q2)) 31)∧hp w' (w.heap.size+1)=some (.cells (aa h) 49))
    (first|(simp [*,go_sem]))
    (first|((go_at_call 271;refine au w zB fun bb=>?_;refine (GR.out _).mono ?_;rintro _ w2 ⟨rfl,hbw2⟩;obtain ⟨dh,aR,zz⟩:=dV bb hbw2 (b:=w.heap.size);(try simp at aR);(try simp [go_sem] at zz);replace bX:=dx zz;clear zz;have dW:=dh;clear hbw2 bb);have r1:=own_below o1 dW;have r2:=own_below o2 dW))
  go_wp2
  try rw [Exit.noGoto_ret]
  refine rE Tryz.results268 rfl (az c (.slice a1 c.cells.length q1) (.slice a2 c.words.length q2) tZ) rfl (aj y0 tZ) ⟨⟨_,_,rfl,?_,?_,av _ _,av _ _⟩,dA zB⟩
  · exact zO r1 o1
  · exact zO r2 o2
theorem uB (c:Ch) (h:Ha) (v1 v2:Value) (lo:Nat) (w:World) (h1:ah w lo v1 c.cells) (h2:ai w lo v2 c.words) (hg:¬ c.sent≤h.grow) (hq:(h.pos == 17)=true) (hk:(h.code != 2)=false) :
    bY 268 c h v1 v2 lo w ((c,{ h with pos:=18 },true)):=by
  have n16:(h.pos == 16)=false:=by simp at hq ⊢;omega
  obtain ⟨a1,q1,a2,q2,rfl,rfl,O1,O2,b1,b2⟩:=qH h1 h2
  clear h1 h2
  have o1:=O1.out
  have o2:=O2.out
  go_enter Tryz.func268,Tryz.ntmps268
  go_wp2
  go_step3
  go_wp2
  go_step3
  go_wp2
  refine wp_loop_rounds 2 ?_
  rw [rounds_succ]
  go_wp2_with fail
  go_region_held3 (fun w'=>hp w' w.heap.size=some (.cells (af c (.slice a1 c.cells.length q1) (.slice a2 c.words.length q2)) 31)∧hp w' (w.heap.size+1)=some (.cells (aa h) 49))
    (first|(simp [*,go_sem]))
    (first|((go_at_call 247;refine au w zB fun bb=>?_;refine (dm _ _ _).mono ?_;rintro _ w2 ⟨rfl,hbw2⟩;obtain ⟨dh,aR,zz⟩:=dV bb hbw2 (b:=w.heap.size);(try simp at aR);(try simp [go_sem] at zz);replace bX:=dx zz;clear zz;have dW:=dh;clear hbw2 bb);have r1:=own_below o1 dW;have r2:=own_below o2 dW))
  go_wp2
  try rw [Exit.noGoto_ret]
  refine rE Tryz.results268 rfl (az c (.slice a1 c.cells.length q1) (.slice a2 c.words.length q2) tZ) rfl (aj { h with pos:=18 } tZ) ⟨⟨_,_,rfl,?_,?_,av _ _,av _ _⟩,dA zB⟩
  · exact zO r1 o1
  · exact zO r2 o2
theorem rZ (c:Ch) (h:Ha) (v1 v2:Value) (lo:Nat) (w:World) (h1:ah w lo v1 c.cells) (h2:ai w lo v2 c.words) (hc0:0≤h.grow) (hc1:h.grow<c.cells.length) (hn:(cellAt c h.grow).s=5) (hq:(h.pos == 18)=true) (hk:(h.code != 2)=false) :
    bY 268 c h v1 v2 lo w ((c,h,false)):=by
  have n16:(h.pos == 16)=false:=by simp at hq ⊢;omega
  have n17:(h.pos == 17)=false:=by simp at hq ⊢;omega
  obtain ⟨i,hci⟩:∃ i:Nat,h.grow=(i:Int):=⟨h.grow.toNat,by omega⟩
  have hi:i<c.cells.length:=by omega
  have hi0:(0:Int)≤(i:Int):=by omega
  have hi1:(i:Int)<(c.cells.length:Int):=by omega
  have hne:=h1.ne h2
  obtain ⟨a2,q2,rfl,_⟩:=h2.seg
  obtain ⟨g,q1,rfl,hlo1,hlt,hcell,hfr⟩:=h1.open1 hi
  have O1:=Lib.hid h1
  have O2:=Lib.hid h2
  have jN:g<w.heap.size+1:=by omega
  have jO:g<w.heap.size+1+1:=by omega
  have jP:g<w.heap.size+1+1+1:=by omega
  have xV:g≠w.heap.size:=by omega
  have xW:g≠w.heap.size+1:=by omega
  have xX:g≠w.heap.size+1+1:=by omega
  have xY:g≠w.heap.size+1+1+1:=by omega
  have zo:w.heap.size≠g:=by omega
  have zq:w.heap.size+1≠g:=by omega
  have zt:w.heap.size+1+1≠g:=by omega
  have zu:w.heap.size+1+1+1≠g:=by omega
  have hx:Hid (cellAt c h.grow=c.cells.getD i ⟨0,0,0⟩):=by simp [cellAt,Hid,hci]
  have c0:=hcell 0 tO
  have c1:=hcell 1 tO
  have c2:=hcell 2 tO
  simp only [C3.val,Nat.add_zero] at c0 c1 c2
  have ex:=hx.out
  rw [ex] at hn
  generalize c.cells.getD i ⟨0,0,0⟩=x at *
  obtain ⟨s,e,t⟩:=x
  simp only at hn c0 c1 c2
  subst hn
  clear hx ex hcell h1 h2
  have o1:=O1.out
  have o2:=O2.out
  go_enter Tryz.func268,Tryz.ntmps268
  go_wp2
  go_step3
  go_wp2
  go_step3
  go_wp2
  refine wp_loop_rounds 2 ?_
  rw [rounds_succ]
  have r1:=o1
  have r2:=o2
  go_wp2_with fail
  go_region
  go_wp2
  try rw [Exit.noGoto_ret]
  refine rE Tryz.results268 rfl (az c (.slice (some ⟨g,0,none⟩) c.cells.length q1) (.slice a2 c.words.length q2) tZ) rfl (aj h (by simp [go_sem, *] <;> first|rfl|simp [bL,hci])) ⟨⟨_,_,rfl,?_,?_,av _ _,av _ _⟩,dA zB⟩
  · exact zO r1 o1
  · exact zO r2 o2
theorem si (c:Ch) (h:Ha) (v1 v2:Value) (lo:Nat) (w:World) (h1:ah w lo v1 c.cells) (h2:ai w lo v2 c.words) (hc0:0≤h.grow) (hc1:h.grow<c.cells.length) (hn:(cellAt c h.grow).s=0) (hq:(h.pos == 18)=true) (hk:(h.code != 2)=false) :
    bY 268 c h v1 v2 lo w ((c,{ bL h (cellAt c h.grow) with pos:=19 },true)):=by
  have n16:(h.pos == 16)=false:=by simp at hq ⊢;omega
  have n17:(h.pos == 17)=false:=by simp at hq ⊢;omega
  obtain ⟨i,hci⟩:∃ i:Nat,h.grow=(i:Int):=⟨h.grow.toNat,by omega⟩
  have hi:i<c.cells.length:=by omega
  have hi0:(0:Int)≤(i:Int):=by omega
  have hi1:(i:Int)<(c.cells.length:Int):=by omega
  have hne:=h1.ne h2
  obtain ⟨a2,q2,rfl,_⟩:=h2.seg
  obtain ⟨g,q1,rfl,hlo1,hlt,hcell,hfr⟩:=h1.open1 hi
  have O1:=Lib.hid h1
  have O2:=Lib.hid h2
  have jN:g<w.heap.size+1:=by omega
  have jO:g<w.heap.size+1+1:=by omega
  have jP:g<w.heap.size+1+1+1:=by omega
  have xV:g≠w.heap.size:=by omega
  have xW:g≠w.heap.size+1:=by omega
  have xX:g≠w.heap.size+1+1:=by omega
  have xY:g≠w.heap.size+1+1+1:=by omega
  have zo:w.heap.size≠g:=by omega
  have zq:w.heap.size+1≠g:=by omega
  have zt:w.heap.size+1+1≠g:=by omega
  have zu:w.heap.size+1+1+1≠g:=by omega
  have hx:Hid (cellAt c h.grow=c.cells.getD i ⟨0,0,0⟩):=by simp [cellAt,Hid,hci]
  have c0:=hcell 0 tO
  have c1:=hcell 1 tO
  have c2:=hcell 2 tO
  simp only [C3.val,Nat.add_zero] at c0 c1 c2
  have ex:=hx.out
  rw [ex] at hn ⊢
  generalize c.cells.getD i ⟨0,0,0⟩=x at *
  obtain ⟨s,e,t⟩:=x
  simp only at hn c0 c1 c2
  subst hn
  clear hx ex hcell h1 h2
  have o1:=O1.out
  have o2:=O2.out
  go_enter Tryz.func268,Tryz.ntmps268
  go_wp2
  go_step3
  go_wp2
  go_step3
  go_wp2
  refine wp_loop_rounds 2 ?_
  rw [rounds_succ]
  go_wp2_with fail;refine au w zB fun bb=>?_;refine (iX h 0 e t _).mono ?_;rintro _ w1 ⟨rfl,ag⟩;obtain ⟨aV,ak,zz⟩:=vX bb ag (b:=w.heap.size);(try simp at ak);(try simp [go_sem] at zz);replace bX:=jb zz;clear zz;have eD:=aV;clear ag bb
  have p1:=own_below o1 eD
  have p2:=own_below o2 eD
  obtain ⟨k0,k1,k2,k3⟩:=jW (a:=w.heap.size) (b:=w1.heap.size)
  have k4:w.heap.size+1+1+1+1<w1.heap.size:=by omega
  go_wp2_with fail
  go_region_held3 (fun w'=>hp w' w.heap.size=some (.cells (af c (.slice (some ⟨g,0,none⟩) c.cells.length q1) (.slice a2 c.words.length q2)) 31)∧hp w' (w.heap.size+1)=some (.cells (aa { h with grow:=(i:Int),seen:=0,wait:=t }) 49))
    (first|(simp [*,go_sem]))
    (first|((go_at_call 247;refine au w zB fun bb=>?_;refine (dm _ _ _).mono ?_;rintro _ w2 ⟨rfl,hbw2⟩;obtain ⟨dh,aR,zz⟩:=dV bb hbw2 (b:=w.heap.size);(try simp at aR);(first|simp [go_sem,bX,k0,k1,k2,k3,k4] at zz|simp [go_sem] at zz|skip);replace bX:=dx zz;clear zz;have dW:=dh;clear hbw2 bb);have r1:=own_below o1 dW;have r2:=own_below o2 dW))
  go_wp2
  try rw [Exit.noGoto_ret]
  refine rE Tryz.results268 rfl (az c (.slice (some ⟨g,0,none⟩) c.cells.length q1) (.slice a2 c.words.length q2) tZ) rfl (aj { bL h ⟨0,e,t⟩ with pos:=19 } (by simp [go_sem, *] <;> first|rfl|simp [bL,hci])) ⟨⟨_,_,rfl,?_,?_,av _ _,av _ _⟩,dA zB⟩
  · exact zO r1 o1
  · exact zO r2 o2
theorem sj (c:Ch) (h:Ha) (v1 v2:Value) (lo:Nat) (w:World) (h1:ah w lo v1 c.cells) (h2:ai w lo v2 c.words) (hc0:0≤h.grow) (hc1:h.grow<c.cells.length) (hn:(cellAt c h.grow).s=3) (hq:(h.pos == 18)=true) (hk:(h.code != 2)=false) :
    bY 268 c h v1 v2 lo w ((c,{ bL h (cellAt c h.grow) with pos:=19 },true)):=by
  have n16:(h.pos == 16)=false:=by simp at hq ⊢;omega
  have n17:(h.pos == 17)=false:=by simp at hq ⊢;omega
  obtain ⟨i,hci⟩:∃ i:Nat,h.grow=(i:Int):=⟨h.grow.toNat,by omega⟩
  have hi:i<c.cells.length:=by omega
  have hi0:(0:Int)≤(i:Int):=by omega
  have hi1:(i:Int)<(c.cells.length:Int):=by omega
  have hne:=h1.ne h2
  obtain ⟨a2,q2,rfl,_⟩:=h2.seg
  obtain ⟨g,q1,rfl,hlo1,hlt,hcell,hfr⟩:=h1.open1 hi
  have O1:=Lib.hid h1
  have O2:=Lib.hid h2
  have jN:g<w.heap.size+1:=by omega
  have jO:g<w.heap.size+1+1:=by omega
  have jP:g<w.heap.size+1+1+1:=by omega
  have xV:g≠w.heap.size:=by omega
  have xW:g≠w.heap.size+1:=by omega
  have xX:g≠w.heap.size+1+1:=by omega
  have xY:g≠w.heap.size+1+1+1:=by omega
  have zo:w.heap.size≠g:=by omega
  have zq:w.heap.size+1≠g:=by omega
  have zt:w.heap.size+1+1≠g:=by omega
  have zu:w.heap.size+1+1+1≠g:=by omega
  have hx:Hid (cellAt c h.grow=c.cells.getD i ⟨0,0,0⟩):=by simp [cellAt,Hid,hci]
  have c0:=hcell 0 tO
  have c1:=hcell 1 tO
  have c2:=hcell 2 tO
  simp only [C3.val,Nat.add_zero] at c0 c1 c2
  have ex:=hx.out
  rw [ex] at hn ⊢
  generalize c.cells.getD i ⟨0,0,0⟩=x at *
  obtain ⟨s,e,t⟩:=x
  simp only at hn c0 c1 c2
  subst hn
  clear hx ex hcell h1 h2
  have o1:=O1.out
  have o2:=O2.out
  go_enter Tryz.func268,Tryz.ntmps268
  go_wp2
  go_step3
  go_wp2
  go_step3
  go_wp2
  refine wp_loop_rounds 2 ?_
  rw [rounds_succ]
  go_wp2_with fail;refine au w zB fun bb=>?_;refine (iX h 3 e t _).mono ?_;rintro _ w1 ⟨rfl,ag⟩;obtain ⟨aV,ak,zz⟩:=vX bb ag (b:=w.heap.size);(try simp at ak);(try simp [go_sem] at zz);replace bX:=jb zz;clear zz;have eD:=aV;clear ag bb
  have p1:=own_below o1 eD
  have p2:=own_below o2 eD
  obtain ⟨k0,k1,k2,k3⟩:=jW (a:=w.heap.size) (b:=w1.heap.size)
  have k4:w.heap.size+1+1+1+1<w1.heap.size:=by omega
  go_wp2_with fail
  go_region_held3 (fun w'=>hp w' w.heap.size=some (.cells (af c (.slice (some ⟨g,0,none⟩) c.cells.length q1) (.slice a2 c.words.length q2)) 31)∧hp w' (w.heap.size+1)=some (.cells (aa { h with grow:=(i:Int),seen:=3,wait:=t }) 49))
    (first|(simp [*,go_sem]))
    (first|((go_at_call 247;refine au w zB fun bb=>?_;refine (dm _ _ _).mono ?_;rintro _ w2 ⟨rfl,hbw2⟩;obtain ⟨dh,aR,zz⟩:=dV bb hbw2 (b:=w.heap.size);(try simp at aR);(first|simp [go_sem,bX,k0,k1,k2,k3,k4] at zz|simp [go_sem] at zz|skip);replace bX:=dx zz;clear zz;have dW:=dh;clear hbw2 bb);have r1:=own_below o1 dW;have r2:=own_below o2 dW))
  go_wp2
  try rw [Exit.noGoto_ret]
  refine rE Tryz.results268 rfl (az c (.slice (some ⟨g,0,none⟩) c.cells.length q1) (.slice a2 c.words.length q2) tZ) rfl (aj { bL h ⟨3,e,t⟩ with pos:=19 } (by simp [go_sem, *] <;> first|rfl|simp [bL,hci])) ⟨⟨_,_,rfl,?_,?_,av _ _,av _ _⟩,dA zB⟩
  · exact zO r1 o1
  · exact zO r2 o2
theorem su (c:Ch) (h:Ha) (v1 v2:Value) (lo:Nat) (w:World) (h1:ah w lo v1 c.cells) (h2:ai w lo v2 c.words) (hc0:0≤h.grow) (hc1:h.grow<c.cells.length) (hn:(cellAt c h.grow).s=9) (hq:(h.pos == 18)=true) (hk:(h.code != 2)=false) :
    bY 268 c h v1 v2 lo w ((c,{ bL h (cellAt c h.grow) with pos:=16 },true)):=by
  have n16:(h.pos == 16)=false:=by simp at hq ⊢;omega
  have n17:(h.pos == 17)=false:=by simp at hq ⊢;omega
  obtain ⟨i,hci⟩:∃ i:Nat,h.grow=(i:Int):=⟨h.grow.toNat,by omega⟩
  have hi:i<c.cells.length:=by omega
  have hi0:(0:Int)≤(i:Int):=by omega
  have hi1:(i:Int)<(c.cells.length:Int):=by omega
  have hne:=h1.ne h2
  obtain ⟨a2,q2,rfl,_⟩:=h2.seg
  obtain ⟨g,q1,rfl,hlo1,hlt,hcell,hfr⟩:=h1.open1 hi
  have O1:=Lib.hid h1
  have O2:=Lib.hid h2
  have jN:g<w.heap.size+1:=by omega
  have jO:g<w.heap.size+1+1:=by omega
  have jP:g<w.heap.size+1+1+1:=by omega
  have xV:g≠w.heap.size:=by omega
  have xW:g≠w.heap.size+1:=by omega
  have xX:g≠w.heap.size+1+1:=by omega
  have xY:g≠w.heap.size+1+1+1:=by omega
  have zo:w.heap.size≠g:=by omega
  have zq:w.heap.size+1≠g:=by omega
  have zt:w.heap.size+1+1≠g:=by omega
  have zu:w.heap.size+1+1+1≠g:=by omega
  have hx:Hid (cellAt c h.grow=c.cells.getD i ⟨0,0,0⟩):=by simp [cellAt,Hid,hci]
  have c0:=hcell 0 tO
  have c1:=hcell 1 tO
  have c2:=hcell 2 tO
  simp only [C3.val,Nat.add_zero] at c0 c1 c2
  have ex:=hx.out
  rw [ex] at hn ⊢
  generalize c.cells.getD i ⟨0,0,0⟩=x at *
  obtain ⟨s,e,t⟩:=x
  simp only at hn c0 c1 c2
  subst hn
  clear hx ex hcell h1 h2
  have o1:=O1.out
  have o2:=O2.out
  go_enter Tryz.func268,Tryz.ntmps268
  go_wp2
  go_step3
  go_wp2
  go_step3
  go_wp2
  refine wp_loop_rounds 2 ?_
  rw [rounds_succ]
  go_wp2_with fail;refine au w zB fun bb=>?_;refine (iX h 9 e t _).mono ?_;rintro _ w1 ⟨rfl,ag⟩;obtain ⟨aV,ak,zz⟩:=vX bb ag (b:=w.heap.size);(try simp at ak);(try simp [go_sem] at zz);replace bX:=jb zz;clear zz;have eD:=aV;clear ag bb
  have p1:=own_below o1 eD
  have p2:=own_below o2 eD
  obtain ⟨k0,k1,k2,k3⟩:=jW (a:=w.heap.size) (b:=w1.heap.size)
  have k4:w.heap.size+1+1+1+1<w1.heap.size:=by omega
  go_wp2_with fail
  go_region_held3 (fun w'=>hp w' w.heap.size=some (.cells (af c (.slice (some ⟨g,0,none⟩) c.cells.length q1) (.slice a2 c.words.length q2)) 31)∧hp w' (w.heap.size+1)=some (.cells (aa { h with grow:=(i:Int),seen:=9,wait:=t }) 49))
    (first|(simp [*,go_sem]))
    (first|((go_at_call 247;refine au w zB fun bb=>?_;refine (dm _ _ _).mono ?_;rintro _ w2 ⟨rfl,hbw2⟩;obtain ⟨dh,aR,zz⟩:=dV bb hbw2 (b:=w.heap.size);(try simp at aR);(first|simp [go_sem,bX,k0,k1,k2,k3,k4] at zz|simp [go_sem] at zz|skip);replace bX:=dx zz;clear zz;have dW:=dh;clear hbw2 bb);have r1:=own_below o1 dW;have r2:=own_below o2 dW))
  go_wp2
  try rw [Exit.noGoto_ret]
  refine rE Tryz.results268 rfl (az c (.slice (some ⟨g,0,none⟩) c.cells.length q1) (.slice a2 c.words.length q2) tZ) rfl (aj { bL h ⟨9,e,t⟩ with pos:=16 } (by simp [go_sem, *] <;> first|rfl|simp [bL,hci])) ⟨⟨_,_,rfl,?_,?_,av _ _,av _ _⟩,dA zB⟩
  · exact zO r1 o1
  · exact zO r2 o2
theorem sw (c:Ch) (h:Ha) (v1 v2:Value) (lo:Nat) (w:World) (h1:ah w lo v1 c.cells) (h2:ai w lo v2 c.words) (hc0:0≤h.grow) (hc1:h.grow<c.cells.length) (s5:((cellAt c h.grow).s == 5)=false) (s0:((cellAt c h.grow).s == 0)=false) (s3:((cellAt c h.grow).s == 3)=false) (s9:((cellAt c h.grow).s == 9)=false) (hcall:dO h.code h.elem=true) (hnx:0≤h.nxt∧h.nxt≤2) (hq:(h.pos == 18)=true) (hk:(h.code != 2)=false) :
    bY 268 c h v1 v2 lo w ((c,df (bL h (cellAt c h.grow)),true)):=by
  have n16:(h.pos == 16)=false:=by simp at hq ⊢;omega
  have n17:(h.pos == 17)=false:=by simp at hq ⊢;omega
  obtain ⟨i,hci⟩:∃ i:Nat,h.grow=(i:Int):=⟨h.grow.toNat,by omega⟩
  have hi:i<c.cells.length:=by omega
  have hi0:(0:Int)≤(i:Int):=by omega
  have hi1:(i:Int)<(c.cells.length:Int):=by omega
  have hne:=h1.ne h2
  obtain ⟨a2,q2,rfl,_⟩:=h2.seg
  obtain ⟨g,q1,rfl,hlo1,hlt,hcell,hfr⟩:=h1.open1 hi
  have O1:=Lib.hid h1
  have O2:=Lib.hid h2
  have jN:g<w.heap.size+1:=by omega
  have jO:g<w.heap.size+1+1:=by omega
  have jP:g<w.heap.size+1+1+1:=by omega
  have xV:g≠w.heap.size:=by omega
  have xW:g≠w.heap.size+1:=by omega
  have xX:g≠w.heap.size+1+1:=by omega
  have xY:g≠w.heap.size+1+1+1:=by omega
  have zo:w.heap.size≠g:=by omega
  have zq:w.heap.size+1≠g:=by omega
  have zt:w.heap.size+1+1≠g:=by omega
  have zu:w.heap.size+1+1+1≠g:=by omega
  have hx:Hid (cellAt c h.grow=c.cells.getD i ⟨0,0,0⟩):=by simp [cellAt,Hid,hci]
  have c0:=hcell 0 tO
  have c1:=hcell 1 tO
  have c2:=hcell 2 tO
  simp only [C3.val,Nat.add_zero] at c0 c1 c2
  have ex:=hx.out
  rw [ex] at s5 s0 s3 s9 ⊢
  generalize c.cells.getD i ⟨0,0,0⟩=x at *
  obtain ⟨s,e,t⟩:=x
  simp only at s5 s0 s3 s9 c0 c1 c2
  clear hx ex hcell h1 h2
  obtain ⟨y0,hy0⟩:∃ y0,df { h with grow:=(i:Int),seen:=s,wait:=t }=y0:=⟨_,rfl⟩
  have GR:=Lib.hid fun W=>jX { h with grow:=(i:Int),seen:=s,wait:=t } W hcall hnx
  rw [show bL h ⟨s,e,t⟩={ h with grow:=(i:Int),seen:=s,wait:=t } by rw [← hci];rfl]
  rw [hy0] at GR
  rw [hy0]
  clear hy0 hcall hnx
  have o1:=O1.out
  have o2:=O2.out
  go_enter Tryz.func268,Tryz.ntmps268
  go_wp2
  go_step3
  go_wp2
  go_step3
  go_wp2
  refine wp_loop_rounds 2 ?_
  rw [rounds_succ]
  go_wp2_with fail;refine au w zB fun bb=>?_;refine (iX h s e t _).mono ?_;rintro _ w1 ⟨rfl,ag⟩;obtain ⟨aV,ak,zz⟩:=vX bb ag (b:=w.heap.size);(try simp at ak);(try simp [go_sem] at zz);replace bX:=jb zz;clear zz;have eD:=aV;clear ag bb
  have p1:=own_below o1 eD
  have p2:=own_below o2 eD
  obtain ⟨k0,k1,k2,k3⟩:=jW (a:=w.heap.size) (b:=w1.heap.size)
  have k4:w.heap.size+1+1+1+1<w1.heap.size:=by omega
  go_wp2_with fail
  rw [rounds_succ]
  go_wp2_with fail
  go_region_held3 (fun w'=>hp w' w.heap.size=some (.cells (af c (.slice (some ⟨g,0,none⟩) c.cells.length q1) (.slice a2 c.words.length q2)) 31)∧hp w' (w.heap.size+1)=some (.cells (aa { h with grow:=(i:Int),seen:=s,wait:=t }) 49))
    (first|(simp [*,go_sem]))
    (first|((go_at_call 271;refine au w zB fun bb=>?_;refine (GR.out _).mono ?_;rintro _ w2 ⟨rfl,hbw2⟩;obtain ⟨dh,aR,zz⟩:=dV bb hbw2 (b:=w.heap.size);(try simp at aR);(first|simp [go_sem,bX,k0,k1,k2,k3,k4] at zz|simp [go_sem] at zz|skip);replace bX:=dx zz;clear zz;have dW:=dh;clear hbw2 bb);have r1:=own_below o1 dW;have r2:=own_below o2 dW))
  go_wp2
  try rw [Exit.noGoto_ret]
  refine rE Tryz.results268 rfl (az c (.slice (some ⟨g,0,none⟩) c.cells.length q1) (.slice a2 c.words.length q2) tZ) rfl (aj y0 (by simp [go_sem, *] <;> first|rfl|simp [bL,hci])) ⟨⟨_,_,rfl,?_,?_,av _ _,av _ _⟩,dA zB⟩
  · exact zO r1 o1
  · exact zO r2 o2
theorem uC (c:Ch) (h:Ha) (v1 v2:Value) (lo:Nat) (w:World) (h1:ah w lo v1 c.cells) (h2:ai w lo v2 c.words) (hc0:0≤h.grow) (hc1:h.grow<c.cells.length) (hs:(h.seen != 0)=true) (hq:(h.pos == 19)=true) (hk:(h.code != 2)=false) :
    bY 268 c h v1 v2 lo w (lv c h):=by
  have T:=Lib.hid fun W a b=>xg c h v1 v2 lo W a b hc0 hc1
  change Hid (∀ W,_→_→Calls _ _ _ _ (fun r w'=>cK W w' lo v1 v2 (lv c h) r)) at T
  clear hc0 hc1
  have n16:(h.pos == 16)=false:=by simp at hq ⊢;omega
  have n17:(h.pos == 17)=false:=by simp at hq ⊢;omega
  have n18:(h.pos == 18)=false:=by simp at hq ⊢;omega
  generalize lv c h=x at *
  obtain ⟨a1,q1,a2,q2,rfl,rfl,o1,o2,b1,b2,m1,m2,m10,m20,m11,m21,m12,m22,m13,m23⟩:=Jh h1 h2
  clear h1 h2
  go_enter Tryz.func268,Tryz.ntmps268
  go_wp2
  go_step3
  go_wp2
  go_step3
  go_wp2
  refine wp_loop_rounds 2 ?_
  rw [rounds_succ]
  go_wp2_with fail
  refine (T.out _ (zO o1 o1) (zO o2 o2)).mono ?_
  rintro _ w3 ⟨⟨y1,y2,rfl,aO,aQ,dH,dF⟩,hO⟩
  have hO3:gV (Value.slice a1 c.cells.length q1).ownBlock (Value.slice a2 c.words.length q2).ownBlock w w3:=fA (dA zB) hO
  have bM:=hO.2.2.2.1;(try (simp at bM));have zz:=Bl hO (b:=w.heap.size);(try simp [go_sem] at zz);replace bX:=dx zz;clear zz
  clear hO
  obtain ⟨⟨aD,aF⟩,dQ,dR⟩:=sO (w:=w) (w.heap.size+1+1+1+1) dH dF b1 b2;obtain ⟨ya,yp,rfl,_⟩:=aO.seg;obtain ⟨yb,yq,rfl,_⟩:=aQ.seg
  go_wp2
  try rw [Exit.noGoto_ret]
  refine rE Tryz.results268 rfl (az x.1 (.slice ya x.1.cells.length yp) (.slice yb x.1.words.length yq) tY) rfl (aj x.2.1 tY) ⟨⟨_,_,rfl,?_,?_,dQ,dR⟩,by exact zN⟩
  · exact zP aO aO aD
  · exact zP aQ aQ aF
theorem mV (c:Ch) (h:Ha) (v1 v2:Value) (lo:Nat) (w:World) (h1:ah w lo v1 c.cells) (h2:ai w lo v2 c.words) (hc0:0≤h.grow) (hc1:h.grow<c.cells.length) (hs:(h.seen != 0)=false) :
    (∀ (hcall:dO h.code h.elem=true) (hnx:0≤h.nxt∧h.nxt≤2) (ht:bn c h.grow 0 1 0=true) (hq:(h.pos == 19)=true) (hk:(h.code != 2)=false),Calls Tryz.prog 268 #[.agg (af c v1 v2),.agg (aa h)] w fun r w'=>cK w w' lo v1 v2 ((bf c h.grow 0 1 0,df h,true)) r) ∧
    (∀ (ht:bn c h.grow 0 1 0=false) (hq:(h.pos == 19)=true) (hk:(h.code != 2)=false),Calls Tryz.prog 268 #[.agg (af c v1 v2),.agg (aa h)] w fun r w'=>cK w w' lo v1 v2 ((bf c h.grow 0 1 0,{ h with pos:=18 },true)) r):=by
  constructor
  case' left =>
    intro hcall hnx ht hq hk
    have mA:Hid (0=0):=rfl
  case' right =>
    intro ht hq hk
    have mB:Hid (0=0):=rfl
  all_goals
    have n16:(h.pos == 16)=false:=by simp at hq ⊢;omega
    have n17:(h.pos == 17)=false:=by simp at hq ⊢;omega
    have n18:(h.pos == 18)=false:=by simp at hq ⊢;omega
    obtain ⟨i,hci⟩:∃ i:Nat,h.grow=(i:Int):=⟨h.grow.toNat,by omega⟩
    have hi:i<c.cells.length:=by omega
    have T:=Lib.hid fun W a b=>jM c i 0 1 0 v1 v2 lo W a b hi
    have ht2:=ht
    rw [hci] at ht2
    rw [ht2] at T
    have e0:bf c h.grow 0 1 0=bf c i 0 1 0:=by rw [hci]
    rw [e0]
    first
    | (replace mA:=mA
       obtain ⟨y0,hy0⟩:∃ y0,df h=y0:=⟨_,rfl⟩
       have GR:=Lib.hid fun W=>jX h W hcall hnx
       rw [hy0] at GR
       rw [hy0]
       clear hy0 hcall hnx)
    | replace mB:=mB
    have b1:=jc h1
    have b2:=jc h2
    have m1:=lD b1
    have m2:=lD b2
    have m10:=m1 (w.heap.size) tO
    have m20:=m2 (w.heap.size) tO
    have m11:=m1 (w.heap.size+1) tO
    have m21:=m2 (w.heap.size+1) tO
    have m12:=m1 (w.heap.size+1+1) tO
    have m22:=m2 (w.heap.size+1+1) tO
    have m13:=m1 (w.heap.size+1+1+1) tO
    have m23:=m2 (w.heap.size+1+1+1) tO
    have o1:=h1
    have o2:=h2
    obtain ⟨a1,q1,e1,_⟩:=h1.seg
    obtain ⟨a2,q2,e2,_⟩:=h2.seg
    subst e1 e2
    clear h1 h2 ht ht2 e0 hc0 hc1
    go_enter Tryz.func268,Tryz.ntmps268
    go_wp2
    go_step3
    go_wp2
    go_step3
    go_wp2
    refine wp_loop_rounds 2 ?_
    rw [rounds_succ]
    go_wp2_with fail;refine (T.out _ (zO o1 o1) (zO o2 o2)).mono ?_;rintro _ w1 ⟨rfl,p1,p2,hgw1⟩;have ak:=hgw1.size;(try (simp at ak));have zz:=MF hgw1 (b:=w.heap.size);(try simp [go_sem] at zz);replace bX:=dx zz;clear zz;have jJ:=Gg (w:=w) zB hgw1;clear hgw1
    have tL:gV (Value.slice a1 c.cells.length q1).ownBlock (Value.slice a2 c.words.length q2).ownBlock w w1:=kS jJ
    obtain ⟨k0,k1,k2,k3⟩:=jW (a:=w.heap.size) (b:=w1.heap.size)
    have u1:ah w1 lo (.slice a1 c.cells.length q1) (bf c i 0 1 0).cells:=p1
    have u2:ai w1 lo (.slice a2 c.words.length q2) (bf c i 0 1 0).words:=p2
    clear p1 p2
    go_wp2_with fail
    first
    | (replace mA:=mA
       rw [rounds_succ]
       go_wp2_with fail
       go_region_held3 (fun w'=>hp w' w.heap.size=some (.cells (af c (.slice a1 c.cells.length q1) (.slice a2 c.words.length q2)) 31)∧hp w' (w.heap.size+1)=some (.cells (aa h) 49))
         (first|(simp [*,go_sem]))
         (first|(go_at_call 271;refine (GR.out _).mono ?_;rintro _ w2 ⟨rfl,hbw2⟩;have hO2:gV (Value.slice a1 c.cells.length q1).ownBlock (Value.slice a2 c.words.length q2).ownBlock w w2:=fA zN (dA hbw2);have p1:ah w2 lo (.slice a1 c.cells.length q1) (bf c i 0 1 0).cells:=own_below (zO u1 o1) hbw2;have p2:ai w2 lo (.slice a2 c.words.length q2) c.words:=own_below (zO u2 o2) hbw2;have aR:=hbw2.size;(try simp at aR);have zz:=AZ hbw2 (b:=w.heap.size);(first|simp [go_sem,bX,k0,k1,k2,k3] at zz|simp [go_sem] at zz|skip);replace bX:=dx zz;clear zz hbw2)))
    | (replace mB:=mB
       go_region_held3 (fun w'=>hp w' w.heap.size=some (.cells (af c (.slice a1 c.cells.length q1) (.slice a2 c.words.length q2)) 31)∧hp w' (w.heap.size+1)=some (.cells (aa h) 49))
         (first|(simp [*,go_sem]))
         (first|(go_at_call 247;refine (dm _ _ _).mono ?_;rintro _ w2 ⟨rfl,hbw2⟩;have hO2:gV (Value.slice a1 c.cells.length q1).ownBlock (Value.slice a2 c.words.length q2).ownBlock w w2:=fA zN (dA hbw2);have p1:ah w2 lo (.slice a1 c.cells.length q1) (bf c i 0 1 0).cells:=own_below (zO u1 o1) hbw2;have p2:ai w2 lo (.slice a2 c.words.length q2) c.words:=own_below (zO u2 o2) hbw2;have aR:=hbw2.size;(try simp at aR);have zz:=AZ hbw2 (b:=w.heap.size);(first|simp [go_sem,bX,k0,k1,k2,k3] at zz|simp [go_sem] at zz|skip);replace bX:=dx zz;clear zz hbw2)))
    go_wp2
    try rw [Exit.noGoto_ret]
    first
    | (replace mA:=mA;refine rE Tryz.results268 rfl (az c (.slice a1 c.cells.length q1) (.slice a2 c.words.length q2) tZ) rfl (aj y0 (by simp [go_sem, *] <;> first|rfl|simp [hci])) ⟨⟨_,_,rfl,?_,?_,av _ _,av _ _⟩,by exact zN⟩)
    | (replace mB:=mB;refine rE Tryz.results268 rfl (az c (.slice a1 c.cells.length q1) (.slice a2 c.words.length q2) tZ) rfl (aj { h with pos:=18 } (by simp [go_sem, *] <;> first|rfl|simp [hci])) ⟨⟨_,_,rfl,?_,?_,av _ _,av _ _⟩,by exact zN⟩)
    · exact zO p1 o1
    · exact zO p2 o2
theorem uD (c:Ch) (h:Ha) (v1 v2:Value) (lo:Nat) (w:World) (h1:ah w lo v1 c.cells) (h2:ai w lo v2 c.words) (hc0:0≤h.grow) (hc1:h.grow<c.cells.length) (hs:(h.seen != 0)=false) (hcall:dO h.code h.elem=true) (hnx:0≤h.nxt∧h.nxt≤2) (ht:bn c h.grow 0 1 0=true) (hq:(h.pos == 19)=true) (hk:(h.code != 2)=false) :
    Calls Tryz.prog 268 #[.agg (af c v1 v2),.agg (aa h)] w fun r w'=>cK w w' lo v1 v2 ((bf c h.grow 0 1 0,df h,true)) r:=(mV c h v1 v2 lo w h1 h2 hc0 hc1 hs).1 hcall hnx ht hq hk
theorem sD (c:Ch) (h:Ha) (v1 v2:Value) (lo:Nat) (w:World) (h1:ah w lo v1 c.cells) (h2:ai w lo v2 c.words) (hc0:0≤h.grow) (hc1:h.grow<c.cells.length) (hs:(h.seen != 0)=false) (ht:bn c h.grow 0 1 0=false) (hq:(h.pos == 19)=true) (hk:(h.code != 2)=false) :
    Calls Tryz.prog 268 #[.agg (af c v1 v2),.agg (aa h)] w fun r w'=>cK w w' lo v1 v2 ((bf c h.grow 0 1 0,{ h with pos:=18 },true)) r:=(mV c h v1 v2 lo w h1 h2 hc0 hc1 hs).2 ht hq hk
theorem xh (c:Ch) (h:Ha) (v1 v2:Value) (lo:Nat) (w:World) (h1:ah w lo v1 c.cells) (h2:ai w lo v2 c.words) (hc:aG c=true) (hlo:lo≤w.heap.size) (hk:(h.code != 2)=false) (hq:(h.pos == 20)=true) :
    bY 268 c h v1 v2 lo w (BU c { h with pos:=21 } { h with pos:=22 }):=by
  have T0:=fun W a b hl=>vJ c { h with pos:=21 } { h with pos:=22 } v1 v2 lo W a b hc hl
  change ∀ W,_→_→_→Calls _ _ _ _ (fun r w'=>StepB W w' lo v1 v2 (BU c { h with pos:=21 } { h with pos:=22 }) r) at T0
  clear hc
  have n16:(h.pos == 16)=false:=by simp at hq ⊢;omega
  have n17:(h.pos == 17)=false:=by simp at hq ⊢;omega
  have n18:(h.pos == 18)=false:=by simp at hq ⊢;omega
  have n19:(h.pos == 19)=false:=by simp at hq ⊢;omega
  generalize BU c { h with pos:=21 } { h with pos:=22 }=x at *
  obtain ⟨a1,q1,a2,q2,rfl,rfl,O1,O2,b1,b2⟩:=qH h1 h2
  clear h1 h2
  have T:=Lib.hid T0
  clear T0
  have o1:=O1.out
  have o2:=O2.out
  go_enter Tryz.func268,Tryz.ntmps268
  go_wp2
  go_step3
  go_wp2
  go_step3
  go_wp2
  refine wp_loop_rounds 2 ?_
  rw [rounds_succ]
  go_upto_region 30 with fail
  refine bJ [[],[],[1],[],[3],[0,1,2,3,4],[0,1,2,3,4,5],[0,1,2,3,4,5],[0,1,2,3,4,5],[0,1,2,3,4,5,6],[0,1,2,3,4,5,7],[0,1,2,3,4,5,8]] [99,100,101,102,103,104,105,106,107,6] (fun l s wx=>(gV (Value.slice a1 c.cells.length q1).ownBlock (Value.slice a2 c.words.length q2).ownBlock w wx)∧(w.heap.size+1+1+1+1≤wx.heap.size)∧(hp wx w.heap.size=some (.cells (af c (.slice a1 c.cells.length q1) (.slice a2 c.words.length q2)) 31))∧(hp wx (w.heap.size+1)=some (.cells (aa h) 49))∧(hp wx (w.heap.size+1+1)=some (.cells (cond (l 9) (af x.1 (s 1003) (s 1004)) (af Ch.zero (.slice none 0 0) (.slice none 0 0))) 31))∧(hp wx (w.heap.size+1+1+1)=some (.cells (cond (l 10) (aa x.2.1) (aa Ha.zero)) 49))∧(l 5=false→ah wx lo (.slice a1 c.cells.length q1) c.cells)∧(l 5=false→ai wx lo (.slice a2 c.words.length q2) c.words)∧(l 0=true→s 99=.agg (af c (.slice a1 c.cells.length q1) (.slice a2 c.words.length q2)))∧(l 1=true→s 100=.agg (aa h))∧(l 2=true→s 101=.agg (aa ({ h with pos:=21 })))∧(l 3=true→s 102=.agg (aa h))∧(l 4=true→s 103=.agg (aa ({ h with pos:=22 })))∧(l 5=true→s 104=.tuple #[.agg (af x.1 (s 1003) (s 1004)),.agg (aa x.2.1),.bool x.2.2]∧ah wx lo (s 1003) x.1.cells∧ai wx lo (s 1004) x.1.words∧dY w (.slice a1 c.cells.length q1) (s 1003)∧dY w (.slice a2 c.words.length q2) (s 1004))∧(l 6=true→s 105=.agg (af x.1 (s 1003) (s 1004)))∧(l 7=true→s 106=.agg (aa x.2.1))∧(l 8=true→s 107=.bool x.2.2)∧(l 11=true→s 6=.bool x.2.2)) (by kernel_rfl) (by kernel_rfl) (by kernel_rfl) (fun s=>by (simp only [fill,gp,List.setIfInBounds_toArray,List.set_cons_zero,List.set_cons_succ];rfl)) (fun s=>⟨dA zB,by simp,by simp [go_sem, *],by simp [go_sem, *],by simp [go_sem, *],by simp [go_sem, *],fun _=>by exact zO o1 o1,fun _=>by exact zO o2 o2,nB,nB,nB,nB,nB,nB,nB,nB,nB,nB⟩) ?_ ?_
  refine ⟨?_,?_,?_,?_,?_,?_,?_,?_,?_,?_,?_,?_,trivial⟩;iterate 12 (intro l s wx hl hd hn hf K hK;rotate_left)
  · intro l s wx hall hf
    have hO:=hf.1
    have z1:=hf.2.2.2.2.1
    have z2:=(jC hf).2.1
    rw [hall 9 rfl] at z1
    rw [hall 10 rfl] at z2
    dsimp only [cond] at z1 z2
    obtain ⟨_,X1,X2,F1,F2⟩:=((jC (jD hf)).2.1 (hall 5 rfl))
    have ec:=((jE hf).2 (hall 11 rfl))
    simp only [ec]
    clear ec hf hall
    go_wp2
    try rw [Exit.noGoto_ret]
    exact bodyPost_ret (lK Tryz.results268 rfl (az x.1 _ _ z1) rfl (aj x.2.1 z2)) rfl ⟨⟨_,_,rfl,X1,X2,F1,F2⟩,hO⟩
  · have zc:=hf.out.2.2.1
    go_simp
    refine hK.out (upd s 99 (.agg (af c (.slice a1 c.cells.length q1) (.slice a2 c.words.length q2)))) _ _ (by simp [ae] <;> rfl) (kD (kX (fun _=>rfl) id) hf.out)
  · have zh:=hf.out.2.2.2.1
    go_simp
    refine hK.out (upd s 100 (.agg (aa h))) _ _ (by simp [ae] <;> rfl) (kD (kA (kX (fun _=>rfl) id)) hf.out)
  · have e1:=((jD hf.out).2.1 (hd 1 rfl))
    go_simp
    go_at_call 247
    refine (dm h 21 _).mono ?_
    rintro _ wy ⟨rfl,hE⟩
    refine hK.out (upd s 101 (.agg (aa ({ h with pos:=21 })))) _ _ (by simp [ae,e1] <;> rfl) (kX (fA hf.out.1 (dA hE)) (kX (Nat.le_trans hf.out.2.1 (Below.size hE)) (kX (fC hf.out.2.2.1 hE) (kX (fC hf.out.2.2.2.1 hE) (kX (fC hf.out.2.2.2.2.1 hE) (kX (fC (jC hf.out).2.1 hE) (kX (fun h9=>own_below ((jC hf.out).2.2.1 h9) hE) (kX (fun h9=>own_below ((jC hf.out).2.2.2.1 h9) hE) (kB (kX (fun _=>rfl) (kB (kX (nU (hn 5 rfl)) (kX (nU (hn 6 rfl)) (kX (nU (hn 7 rfl)) (kX (nU (hn 8 rfl)) (fun _=>nU (hn 11 rfl)))))))))))))))) hf.out)
  · have zh:=hf.out.2.2.2.1
    go_simp
    refine hK.out (upd s 102 (.agg (aa h))) _ _ (by simp [ae] <;> rfl) (kD (kB (kA (kX (fun _=>rfl) id))) hf.out)
  · have e3:=((jD hf.out).2.2.2.1 (hd 3 rfl))
    go_simp
    go_at_call 247
    refine (dm h 22 _).mono ?_
    rintro _ wy ⟨rfl,hE⟩
    refine hK.out (upd s 103 (.agg (aa ({ h with pos:=22 })))) _ _ (by simp [ae,e3] <;> rfl) (kX (fA hf.out.1 (dA hE)) (kX (Nat.le_trans hf.out.2.1 (Below.size hE)) (kX (fC hf.out.2.2.1 hE) (kX (fC hf.out.2.2.2.1 hE) (kX (fC hf.out.2.2.2.2.1 hE) (kX (fC (jC hf.out).2.1 hE) (kX (fun h9=>own_below ((jC hf.out).2.2.1 h9) hE) (kX (fun h9=>own_below ((jC hf.out).2.2.2.1 h9) hE) (kC (kX (fun _=>rfl) (kX (nU (hn 5 rfl)) (kX (nU (hn 6 rfl)) (kX (nU (hn 7 rfl)) (kX (nU (hn 8 rfl)) (fun _=>nU (hn 11 rfl))))))))))))))) hf.out)
  · have e0:=((jD hf.out).1 (hd 0 rfl))
    have e2:=((jD hf.out).2.2.1 (hd 2 rfl))
    have e4:=((jC (jD hf.out)).1 (hd 4 rfl))
    go_simp
    go_at_call 253
    refine (T.out _ ((jC hf.out).2.2.1 hl) ((jC hf.out).2.2.2.1 hl) (Nat.le_trans hlo hf.out.1.2.2.2.1)).mono ?_
    rintro _ wy ⟨⟨y1,y2,rfl,X1,X2,F1,F2⟩,hE⟩
    have hO:=dA (a:=(Value.slice a1 c.cells.length q1).ownBlock) (b:=(Value.slice a2 c.words.length q2).ownBlock) hE
    refine hK.out (upd (upd (upd s 1003 (y1)) 1004 (y2)) 104 (.tuple #[.agg (af x.1 y1 y2),.agg (aa x.2.1),.bool x.2.2])) _ _ (by simp [ae,e0,e2,e4] <;> rfl) (kX (fA hf.out.1 hO) (kX (Nat.le_trans hf.out.2.1 hO.2.2.2.1) (kX (fG hf.out.2.2.1 hO ((jC hf.out).2.2.1 hl) ((jC hf.out).2.2.2.1 hl) (by decide) (by decide)) (kX (fG hf.out.2.2.2.1 hO ((jC hf.out).2.2.1 hl) ((jC hf.out).2.2.2.1 hl) (by decide) (by decide)) (kX (by (have ee:l 9=false:=hn 9 rfl);(have F:=hf.out.2.2.2.2.1);rw [ee] at F;rw [show upd l 5 true 9=false from ee];exact fG F hO ((jC hf.out).2.2.1 hl) ((jC hf.out).2.2.2.1 hl) (by decide) (by decide)) (kX (by (have ee:l 10=false:=hn 10 rfl);(have F:=(jC hf.out).2.1);rw [ee] at F;rw [show upd l 5 true 10=false from ee];exact fG F hO ((jC hf.out).2.2.1 hl) ((jC hf.out).2.2.2.1 hl) (by decide) (by decide)) (kX (fun h9=>nU h9 (show upd l 5 true 5=true from rfl)) (kX (fun h9=>nU h9 (show upd l 5 true 5=true from rfl)) (kC (kA (kX (fun _=>⟨rfl,X1,X2,fun j hj=>(F1 j hj).imp id (fun h=>Nat.le_trans hf.out.1.2.2.2.1 h),fun j hj=>(F2 j hj).imp id (fun h=>Nat.le_trans hf.out.1.2.2.2.1 h)⟩) (kX (nU (hn 6 rfl)) (kX (nU (hn 7 rfl)) (kX (nU (hn 8 rfl)) (fun _=>nU (hn 11 rfl))))))))))))))) hf.out)
  · have e5:=((jC (jD hf.out)).2.1 (hd 5 rfl)).1
    go_simp
    refine hK.out (upd s 105 (.agg (af x.1 (s 1003) (s 1004)))) _ _ (by simp [ae,e5] <;> rfl) (kD (kC (kB (kX (fun _=>rfl) id))) hf.out)
  · have e5:=((jC (jD hf.out)).2.1 (hd 5 rfl)).1
    go_simp
    refine hK.out (upd s 106 (.agg (aa x.2.1))) _ _ (by simp [ae,e5] <;> rfl) (kD (kC (kB (kA (kX (fun _=>rfl) id)))) hf.out)
  · have e5:=((jC (jD hf.out)).2.1 (hd 5 rfl)).1
    go_simp
    refine hK.out (upd s 107 (.bool x.2.2)) _ _ (by simp [ae,e5] <;> rfl) (kE (kX (fun _=>rfl) id) hf.out)
  · have e6:=((jC (jD hf.out)).2.2.1 (hd 6 rfl))
    have e5:=((jC (jD hf.out)).2.1 (hd 5 rfl))
    have X1:=e5.2.1
    have X2:=e5.2.2.1
    clear e5
    have zr:=hf.out.2.2.2.2.1
    rw [hl] at zr
    dsimp only [cond] at zr
    obtain ⟨xa,xp,ea,_⟩:=X1.seg
    obtain ⟨xb,xq,pI,_⟩:=X2.seg
    rw [ea,pI] at e6
    have zn:hp (bI wx (w.heap.size+1+1) (af x.1 (.slice xa x.1.cells.length xp) (.slice xb x.1.words.length xq))) (w.heap.size+1+1)=some (.cells (af x.1 (s 1003) (s 1004)) 31):=by rw [ea,pI];exact gQ zr
    have hO:=hf.out.1
    go_simp
    refine hK.out (s) _ _ (by simp [ae,e6,ea,pI] <;> rfl) (kX (oX hO tO) (kX (Nat.le_trans hf.out.2.1 (Nat.le_of_eq aI.symm)) (kX ((aL tO).trans hf.out.2.2.1) (kX ((aL tO).trans hf.out.2.2.2.1) (kX (zn) (kX ((aL tO).trans (jC hf.out).2.1) (kX (fun h9=>nU h9 (show upd l 9 true 5=true from hd 5 rfl)) (kX (fun h9=>nU h9 (show upd l 9 true 5=true from hd 5 rfl)) (kC (kA (kX (fun h=>(let ⟨e,X1,X2,F1,F2⟩:=(jC (jD hf.out)).2.1 h;⟨e,dG X1 zr (by decide),dG X2 zr (by decide),F1,F2⟩)) id)))))))))) hf.out)
  · have e7:=((jC (jD hf.out)).2.2.2.1 (hd 7 rfl))
    have e5:=((jC (jD hf.out)).2.1 (hd 5 rfl))
    have X1:=e5.2.1
    have X2:=e5.2.2.1
    clear e5
    have zr:=(jC hf.out).2.1
    rw [hl] at zr
    dsimp only [cond] at zr
    have zn:hp (bI wx (w.heap.size+1+1+1) (aa x.2.1)) (w.heap.size+1+1+1)=some (.cells (aa x.2.1) 49):=by exact gQ zr
    have hO:=hf.out.1
    go_simp
    refine hK.out (s) _ _ (by simp [ae,e7] <;> rfl) (kX (oX hO tO) (kX (Nat.le_trans hf.out.2.1 (Nat.le_of_eq aI.symm)) (kX ((aL tO).trans hf.out.2.2.1) (kX ((aL tO).trans hf.out.2.2.2.1) (kX ((aL tO).trans hf.out.2.2.2.2.1) (kX (zn) (kX (fun h9=>nU h9 (show upd l 10 true 5=true from hd 5 rfl)) (kX (fun h9=>nU h9 (show upd l 10 true 5=true from hd 5 rfl)) (kC (kA (kX (fun h=>(let ⟨e,X1,X2,F1,F2⟩:=(jC (jD hf.out)).2.1 h;⟨e,dG X1 zr (by decide),dG X2 zr (by decide),F1,F2⟩)) id)))))))))) hf.out)
  · have e8:=((jE hf.out).1 (hd 8 rfl))
    go_simp
    refine hK.out (upd s 6 (.bool x.2.2)) _ _ (by simp [ae,e8] <;> rfl) (kE (kA (fun _=>fun _=>rfl)) hf.out)
theorem xk (c:Ch) (h:Ha) (v1 v2:Value) (lo:Nat) (w:World) (h1:ah w lo v1 c.cells) (h2:ai w lo v2 c.words) (hc0:0≤h.grow) (hc1:h.grow<c.cells.length) (hcall:dO h.code h.elem=true) (hnx:0≤h.nxt∧h.nxt≤2) (hq:(h.pos == 21)=true) (hk:(h.code != 2)=false) :
    bY 268 c h v1 v2 lo w ((bH c h.grow 2,df h,true)):=by
  have n16:(h.pos == 16)=false:=by simp at hq ⊢;omega
  have n17:(h.pos == 17)=false:=by simp at hq ⊢;omega
  have n18:(h.pos == 18)=false:=by simp at hq ⊢;omega
  have n19:(h.pos == 19)=false:=by simp at hq ⊢;omega
  have n20:(h.pos == 20)=false:=by simp at hq ⊢;omega
  obtain ⟨i,hci⟩:∃ i:Nat,h.grow=(i:Int):=⟨h.grow.toNat,by omega⟩
  have hi:i<c.cells.length:=by omega
  have hi0:(0:Int)≤(i:Int):=by omega
  have hi1:(i:Int)<(c.cells.length:Int):=by omega
  have hne:=h1.ne h2
  obtain ⟨a2,q2,rfl,_⟩:=h2.seg
  obtain ⟨g,q1,rfl,hlo1,hlt,hcell,hfr⟩:=h1.open1 hi
  have O1:=Lib.hid h1
  have O2:=Lib.hid h2
  have jN:g<w.heap.size+1:=by omega
  have jO:g<w.heap.size+1+1:=by omega
  have jP:g<w.heap.size+1+1+1:=by omega
  have xV:g≠w.heap.size:=by omega
  have xW:g≠w.heap.size+1:=by omega
  have xX:g≠w.heap.size+1+1:=by omega
  have xY:g≠w.heap.size+1+1+1:=by omega
  have zo:w.heap.size≠g:=by omega
  have zq:w.heap.size+1≠g:=by omega
  have zt:w.heap.size+1+1≠g:=by omega
  have zu:w.heap.size+1+1+1≠g:=by omega
  have hx:Hid (cellAt c h.grow=c.cells.getD i ⟨0,0,0⟩):=by simp [cellAt,Hid,hci]
  have c0:=hcell 0 tO
  have c1:=hcell 1 tO
  have c2:=hcell 2 tO
  simp only [C3.val,Nat.add_zero] at c0 c1 c2
  rw [show bH c h.grow 2=bH c i 2 by rw [hci]]
  have e1:=iq c i 2
  have P1:=fun W (o:ah W lo (.slice (some ⟨g,0,none⟩) c.cells.length q1) c.cells)=>ah.setS o hi 2
  rw [← e1] at P1
  clear hx hcell h1 h2 e1
  generalize c.cells.getD i ⟨0,0,0⟩=x at *
  have o1:=O1.out
  have o2:=O2.out
  obtain ⟨y0,hy0⟩:∃ y0,df h=y0:=⟨_,rfl⟩
  have GR:=Lib.hid fun W=>jX h W hcall hnx
  rw [hy0] at GR
  rw [hy0]
  clear hy0 hcall hnx
  go_enter Tryz.func268,Tryz.ntmps268
  go_wp2
  go_step3
  go_wp2
  go_step3
  go_wp2
  refine wp_loop_rounds 2 ?_
  rw [rounds_succ]
  have P2:=bP (p:=⟨g,i*3,none⟩) o2 (hne g rfl) (.int .i64 2)
  go_wp2_with fail
  rw [rounds_succ]
  go_wp2_with fail
  go_region_held3 (fun w'=>hp w' w.heap.size=some (.cells (af c (.slice (some ⟨g,0,none⟩) c.cells.length q1) (.slice a2 c.words.length q2)) 31)∧hp w' (w.heap.size+1)=some (.cells (aa h) 49))
    (first|(simp [*,go_sem]))
    (first|(go_at_call 271;refine (GR.out _).mono ?_;rintro _ w1 ⟨rfl,ag⟩;have jJ:Gr g w w1:=gT zG (qz ag);have ak:=ag.size;(try (simp at ak));have zz:=hQ ag (b:=w.heap.size);(first|(simp [go_sem,bG,bV,hlt,jN,jO,jP] at zz)|(simp [go_sem,hlt,jN,jO,jP] at zz));(try clear di dC);(try clear bG);have bG:=zz;clear zz;(try clear bV);obtain ⟨di,dC,bV⟩:=bO bG;have zz:=hQ ag (b:=w.heap.size+1);(first|(simp [go_sem,dE,dz,hlt,jN,jO,jP] at zz)|(simp [go_sem,hlt,jN,jO,jP] at zz));(try clear dS dZ);(try clear dE);have dE:=zz;clear zz;(try clear dz);obtain ⟨dS,dZ,dz⟩:=bO dE;have zz:=hQ ag (b:=w.heap.size+1+1);(first|(simp [go_sem,bg,bW,hlt,jN,jO,jP] at zz)|(simp [go_sem,hlt,jN,jO,jP] at zz));(try clear dJ dK);(try clear bg);have bg:=zz;clear zz;(try clear bW);obtain ⟨dJ,dK,bW⟩:=bO bg;have zz:=hQ ag (b:=w.heap.size+1+1+1);(first|(simp [go_sem,aJ,bq,hlt,jN,jO,jP] at zz)|(simp [go_sem,hlt,jN,jO,jP] at zz));(try clear cu cz);(try clear aJ);have aJ:=zz;clear zz;(try clear bq);obtain ⟨cu,cz,bq⟩:=bO aJ;have p1:ah w1 lo (.slice (some ⟨g,0,none⟩) c.cells.length q1) (bH c i 2).cells:=own_below (by exact zO (P1 _ o1) o1) ag;have p2:ai w1 lo (.slice a2 c.words.length q2) c.words:=own_below (zO P2 o2) ag))
  go_wp2
  try rw [Exit.noGoto_ret]
  refine rE Tryz.results268 rfl (az (bH c i 2) (.slice (some ⟨g,0,none⟩) c.cells.length q1) (.slice a2 c.words.length q2) tZ) rfl (aj y0 (by simp [go_sem, *] <;> first|rfl|simp [hci])) ⟨⟨_,_,rfl,?_,?_,av _ _,av _ _⟩,kS (show w.grownBy _ (some g) from zG)⟩
  · show ah _ lo (.slice (some ⟨g,0,none⟩) c.cells.length q1) (bH c i 2).cells
    exact zO p1 o1
  · show ai _ lo (.slice a2 c.words.length q2) c.words
    exact zO p2 o2
theorem xm (c:Ch) (h:Ha) (v1 v2:Value) (lo:Nat) (w:World) (h1:ah w lo v1 c.cells) (h2:ai w lo v2 c.words) (hc0:0≤h.grow) (hc1:h.grow<c.cells.length) (hq:(h.pos == 22)=true) (hk:(h.code != 2)=false) :
    bY 268 c h v1 v2 lo w ((bH c h.grow 9,{ h with pos:=16 },true)):=by
  have n16:(h.pos == 16)=false:=by simp at hq ⊢;omega
  have n17:(h.pos == 17)=false:=by simp at hq ⊢;omega
  have n18:(h.pos == 18)=false:=by simp at hq ⊢;omega
  have n19:(h.pos == 19)=false:=by simp at hq ⊢;omega
  have n20:(h.pos == 20)=false:=by simp at hq ⊢;omega
  have n21:(h.pos == 21)=false:=by simp at hq ⊢;omega
  obtain ⟨i,hci⟩:∃ i:Nat,h.grow=(i:Int):=⟨h.grow.toNat,by omega⟩
  have hi:i<c.cells.length:=by omega
  have hi0:(0:Int)≤(i:Int):=by omega
  have hi1:(i:Int)<(c.cells.length:Int):=by omega
  have hne:=h1.ne h2
  obtain ⟨a2,q2,rfl,_⟩:=h2.seg
  obtain ⟨g,q1,rfl,hlo1,hlt,hcell,hfr⟩:=h1.open1 hi
  have O1:=Lib.hid h1
  have O2:=Lib.hid h2
  have jN:g<w.heap.size+1:=by omega
  have jO:g<w.heap.size+1+1:=by omega
  have jP:g<w.heap.size+1+1+1:=by omega
  have xV:g≠w.heap.size:=by omega
  have xW:g≠w.heap.size+1:=by omega
  have xX:g≠w.heap.size+1+1:=by omega
  have xY:g≠w.heap.size+1+1+1:=by omega
  have zo:w.heap.size≠g:=by omega
  have zq:w.heap.size+1≠g:=by omega
  have zt:w.heap.size+1+1≠g:=by omega
  have zu:w.heap.size+1+1+1≠g:=by omega
  have hx:Hid (cellAt c h.grow=c.cells.getD i ⟨0,0,0⟩):=by simp [cellAt,Hid,hci]
  have c0:=hcell 0 tO
  have c1:=hcell 1 tO
  have c2:=hcell 2 tO
  simp only [C3.val,Nat.add_zero] at c0 c1 c2
  rw [show bH c h.grow 9=bH c i 9 by rw [hci]]
  have e1:=iq c i 9
  have P1:=fun W (o:ah W lo (.slice (some ⟨g,0,none⟩) c.cells.length q1) c.cells)=>ah.setS o hi 9
  rw [← e1] at P1
  clear hx hcell h1 h2 e1
  generalize c.cells.getD i ⟨0,0,0⟩=x at *
  have o1:=O1.out
  have o2:=O2.out
  go_enter Tryz.func268,Tryz.ntmps268
  go_wp2
  go_step3
  go_wp2
  go_step3
  go_wp2
  refine wp_loop_rounds 2 ?_
  rw [rounds_succ]
  have P2:=bP (p:=⟨g,i*3,none⟩) o2 (hne g rfl) (.int .i64 9)
  go_wp2_with fail
  go_region_held3 (fun w'=>hp w' w.heap.size=some (.cells (af c (.slice (some ⟨g,0,none⟩) c.cells.length q1) (.slice a2 c.words.length q2)) 31)∧hp w' (w.heap.size+1)=some (.cells (aa h) 49))
    (first|(simp [*,go_sem]))
    (first|(go_at_call 247;refine (dm _ _ _).mono ?_;rintro _ w1 ⟨rfl,ag⟩;have jJ:Gr g w w1:=gT zG (qz ag);have ak:=ag.size;(try (simp at ak));have zz:=hQ ag (b:=w.heap.size);(first|(simp [go_sem,bG,bV,hlt,jN,jO,jP] at zz)|(simp [go_sem,hlt,jN,jO,jP] at zz));(try clear di dC);(try clear bG);have bG:=zz;clear zz;(try clear bV);obtain ⟨di,dC,bV⟩:=bO bG;have zz:=hQ ag (b:=w.heap.size+1);(first|(simp [go_sem,dE,dz,hlt,jN,jO,jP] at zz)|(simp [go_sem,hlt,jN,jO,jP] at zz));(try clear dS dZ);(try clear dE);have dE:=zz;clear zz;(try clear dz);obtain ⟨dS,dZ,dz⟩:=bO dE;have zz:=hQ ag (b:=w.heap.size+1+1);(first|(simp [go_sem,bg,bW,hlt,jN,jO,jP] at zz)|(simp [go_sem,hlt,jN,jO,jP] at zz));(try clear dJ dK);(try clear bg);have bg:=zz;clear zz;(try clear bW);obtain ⟨dJ,dK,bW⟩:=bO bg;have zz:=hQ ag (b:=w.heap.size+1+1+1);(first|(simp [go_sem,aJ,bq,hlt,jN,jO,jP] at zz)|(simp [go_sem,hlt,jN,jO,jP] at zz));(try clear cu cz);(try clear aJ);have aJ:=zz;clear zz;(try clear bq);obtain ⟨cu,cz,bq⟩:=bO aJ;have p1:ah w1 lo (.slice (some ⟨g,0,none⟩) c.cells.length q1) (bH c i 9).cells:=own_below (by exact zO (P1 _ o1) o1) ag;have p2:ai w1 lo (.slice a2 c.words.length q2) c.words:=own_below (zO P2 o2) ag))
  go_wp2
  try rw [Exit.noGoto_ret]
  refine rE Tryz.results268 rfl (az (bH c i 9) (.slice (some ⟨g,0,none⟩) c.cells.length q1) (.slice a2 c.words.length q2) tZ) rfl (aj { h with pos:=16 } (by simp [go_sem, *] <;> first|rfl|simp [hci])) ⟨⟨_,_,rfl,?_,?_,av _ _,av _ _⟩,kS (show w.grownBy _ (some g) from zG)⟩
  · show ah _ lo (.slice (some ⟨g,0,none⟩) c.cells.length q1) (bH c i 9).cells
    exact zO p1 o1
  · show ai _ lo (.slice a2 c.words.length q2) c.words
    exact zO p2 o2
theorem xn (c:Ch) (h:Ha) (v1 v2:Value) (lo:Nat) (w:World) (h1:ah w lo v1 c.cells) (h2:ai w lo v2 c.words) (hk:(h.code != 2)=true) :
    bY 268 c h v1 v2 lo w (nothing):=by
  have T:=Lib.hid fun W=>fO W lo v1 v2
  generalize nothing=x at *
  obtain ⟨a1,q1,a2,q2,rfl,rfl,o1,o2,b1,b2,m1,m2,m10,m20,m11,m21,m12,m22,m13,m23⟩:=Jh h1 h2
  clear h1 h2
  go_enter Tryz.func268,Tryz.ntmps268
  go_wp2
  go_step3
  go_wp2_with fail
  refine (T.out _).mono ?_
  rintro _ w3 ⟨⟨y1,y2,rfl,aO,aQ,dH,dF⟩,aC⟩
  have hO3:gV (Value.slice a1 c.cells.length q1).ownBlock (Value.slice a2 c.words.length q2).ownBlock w w3:=fA (dA zB) (dA aC)
  have bM:=aC.size;(try simp at bM);have zz:=AZ aC (b:=w.heap.size);(try simp [go_sem] at zz);replace bX:=dx zz;clear zz aC
  obtain ⟨⟨aD,aF⟩,dQ,dR⟩:=sO (w:=w) (w.heap.size+1+1+1+1) dH dF b1 b2;obtain ⟨ya,yp,rfl,_⟩:=aO.seg;obtain ⟨yb,yq,rfl,_⟩:=aQ.seg
  go_wp2
  try rw [Exit.noGoto_ret]
  refine rE Tryz.results268 rfl (az x.1 (.slice ya x.1.cells.length yp) (.slice yb x.1.words.length yq) tY) rfl (aj x.2.1 tY) ⟨⟨_,_,rfl,?_,?_,dQ,dR⟩,by exact zN⟩
  · exact zP aO aO aD
  · exact zP aQ aQ aF
theorem uE (c:Ch) (h:Ha) (v1 v2:Value) (lo:Nat) (w:World) (h1:ah w lo v1 c.cells) (h2:ai w lo v2 c.words) (hk:(h.code != 2)=false) (n16:(h.pos == 16)=false) (n17:(h.pos == 17)=false) (n18:(h.pos == 18)=false) (n19:(h.pos == 19)=false) (n20:(h.pos == 20)=false) (n21:(h.pos == 21)=false) (n22:(h.pos == 22)=false) (n26:(h.pos == 26)=false) :
    bY 268 c h v1 v2 lo w (nothing):=by
  have T:=Lib.hid fun W=>fO W lo v1 v2
  generalize nothing=x at *
  obtain ⟨a1,q1,a2,q2,rfl,rfl,o1,o2,b1,b2,m1,m2,m10,m20,m11,m21,m12,m22,m13,m23⟩:=Jh h1 h2
  clear h1 h2
  go_enter Tryz.func268,Tryz.ntmps268
  go_wp2
  go_step3
  go_wp2
  go_step3
  go_wp2
  refine wp_loop_rounds 2 ?_
  rw [rounds_succ]
  go_wp2_with fail
  refine (T.out _).mono ?_
  rintro _ w3 ⟨⟨y1,y2,rfl,aO,aQ,dH,dF⟩,aC⟩
  have hO3:gV (Value.slice a1 c.cells.length q1).ownBlock (Value.slice a2 c.words.length q2).ownBlock w w3:=fA (dA zB) (dA aC)
  have bM:=aC.size;(try simp at bM);have zz:=AZ aC (b:=w.heap.size);(try simp [go_sem] at zz);replace bX:=dx zz;clear zz aC
  obtain ⟨⟨aD,aF⟩,dQ,dR⟩:=sO (w:=w) (w.heap.size+1+1+1+1) dH dF b1 b2;obtain ⟨ya,yp,rfl,_⟩:=aO.seg;obtain ⟨yb,yq,rfl,_⟩:=aQ.seg
  go_wp2
  try rw [Exit.noGoto_ret]
  refine rE Tryz.results268 rfl (az x.1 (.slice ya x.1.cells.length yp) (.slice yb x.1.words.length yq) tY) rfl (aj x.2.1 tY) ⟨⟨_,_,rfl,?_,?_,dQ,dR⟩,by exact zN⟩
  · exact zP aO aO aD
  · exact zP aQ aQ aF
end
section
open Go.RowKit
attribute [local simp] aI
attribute [local go_sem ↓] aH aU aM bz aN bB aA aK ax aB
theorem eu {c:Ch} {h:Ha}:ku (c,h,true)=done c h:=rfl
theorem kU:ku nothing=nothing:=by simp [ku,nothing,aG,fo,Ch.zero]
theorem Ff {c:Ch} {w word:Int} (h:eU c w word=false):dD c w word=c:=by simp [dD,h]
theorem Io {h:Ha} (hh:bF h=true):0≤h.nxt∧h.nxt≤2:=by
 simp only [bF,DN,Bool.and_eq_true,kJ] at hh
 omega
theorem Cv {h:Ha} (hh:bF h=true):0≤h.grow∧h.grow≤39:=by
 simp only [bF,uX,Bool.and_eq_true,kJ] at hh
 omega
theorem Ip {h:Ha} (hh:bF h=true):0≤h.pos∧h.pos≤25:=by
 simp only [bF,pW,Bool.and_eq_true,kJ] at hh
 omega
theorem Fg {c:Ch} (e:aG c=true):0≤c.fin∧c.fin≤40:=by
 simp only [aG,fo,Bool.and_eq_true,kJ] at e
 omega
theorem uF (c:Ch) (h:Ha) (hc:aG c=true) (hh:bF h=true):∃ x:St,cZ c h=ku x∧∀ (v1 v2:Value) (lo:Nat) (W:World),ah W lo v1 c.cells→ai W lo v2 c.words→lo≤W.heap.size→Calls Tryz.prog 268 #[.agg (af c v1 v2),.agg (aa h)] W fun r w'=>cK W w' lo v1 v2 x r:=by
 cases hk:(h.code != 2) with
 | true =>
  have hk2:¬ h.code=2:=by simpa using hk
  have hno:aX c h 16 22 2=false:=by simp [aX,hk2]
  exact ⟨nothing,by rw [kU];simp [cZ,aY,hno],fun v1 v2 lo W o1 o2 _=>xn c h v1 v2 lo W o1 o2 hk⟩
 | false =>
  have hk2:h.code=2:=by simpa using hk
  have hnx:=Io hh
  obtain ⟨hc0,P9⟩:=Cv hh
  have hc1:h.grow<c.cells.length:=by have:=(iW hc).1;omega
  by_cases hr:16≤h.pos∧h.pos≤22
  ·have hok:aX c h 16 22 2=true:=by
    have:dL h.pos 16 22=true:=by simp [dL];omega
    simp [aX,hc,hh,this,hk2]
   have hcall:dO h.code h.elem=true:=by
    have:=hh
    simp only [bF,pW,Bool.and_eq_true,kJ] at this
    have h0:¬ h.pos=0:=by omega
    simp [h0] at this
    exact this.1.2
   have hps:h.pos=16∨h.pos=17∨h.pos=18∨h.pos=19∨h.pos=20∨h.pos=21∨h.pos=22:=by omega
   rcases hps with hp|hp|hp|hp|hp|hp|hp
   ·have hq:(h.pos == 16)=true:=by simpa using hp
    cases hg:(c.cap == 0) with
    | true =>
     refine ⟨(c,df h,true),?_,fun v1 v2 lo W o1 o2 _=>uw c h v1 v2 lo W o1 o2 hg hcall hnx hq hk⟩
     simp only [cZ,aY,hok,hp,fT,hg]
     simp [eu]
    | false =>
     cases hf:(c.fin == 40) with
     | true =>
      refine ⟨(c,df h,true),?_,fun v1 v2 lo W o1 o2 _=>uy c h v1 v2 lo W o1 o2 hg hf hcall hnx hq hk⟩
      simp only [cZ,aY,hok,hp,fT,hg,hf]
      simp [eu]
     | false =>
      refine ⟨({ c with fin:=c.fin+1 },{ h with grow:=c.fin,pos:=17 },true),?_,fun v1 v2 lo W o1 o2 _=>uz c h v1 v2 lo W o1 o2 (Fg hc) hg hf hq hk⟩
      simp only [cZ,aY,hok,hp,fT,hg,hf]
      simp [eu]
   ·have hq:(h.pos == 17)=true:=by simpa using hp
    by_cases hg:c.sent≤h.grow
    ·refine ⟨(c,df h,true),?_,fun v1 v2 lo W o1 o2 _=>uA c h v1 v2 lo W o1 o2 hg hcall hnx hq hk⟩
     simp [cZ,aY,hok,hp,hg,eu]
    ·refine ⟨(c,{ h with pos:=18 },true),?_,fun v1 v2 lo W o1 o2 _=>uB c h v1 v2 lo W o1 o2 hg hq hk⟩
     simp [cZ,aY,hok,hp,hg,eu]
   ·have hq:(h.pos == 18)=true:=by simpa using hp
    have em:cZ c h=kg c h:=by simp [cZ,aY,hok,hp]
    by_cases n5:(cellAt c h.grow).s=5
    ·refine ⟨(c,h,false),?_,fun v1 v2 lo W o1 o2 _=>rZ c h v1 v2 lo W o1 o2 hc0 hc1 n5 hq hk⟩
     rw [em]
     simp [kg,n5,ku,hc,hh]
    have ed:cZ c h=done c (jG c h):=by rw [em];simp [kg,n5]
    by_cases n0:(cellAt c h.grow).s=0
    ·refine ⟨(c,{ bL h (cellAt c h.grow) with pos:=19 },true),?_,fun v1 v2 lo W o1 o2 _=>si c h v1 v2 lo W o1 o2 hc0 hc1 n0 hq hk⟩
     rw [ed,eu]
     simp [jG,n0]
    by_cases n3:(cellAt c h.grow).s=3
    ·refine ⟨(c,{ bL h (cellAt c h.grow) with pos:=19 },true),?_,fun v1 v2 lo W o1 o2 _=>sj c h v1 v2 lo W o1 o2 hc0 hc1 n3 hq hk⟩
     rw [ed,eu]
     simp [jG,n3]
    by_cases n9:(cellAt c h.grow).s=9
    ·refine ⟨(c,{ bL h (cellAt c h.grow) with pos:=16 },true),?_,fun v1 v2 lo W o1 o2 _=>su c h v1 v2 lo W o1 o2 hc0 hc1 n9 hq hk⟩
     rw [ed,eu]
     simp [jG,n9]
    ·refine ⟨(c,df (bL h (cellAt c h.grow)),true),?_,fun v1 v2 lo W o1 o2 _=>sw c h v1 v2 lo W o1 o2 hc0 hc1 (by simpa using n5) (by simpa using n0) (by simpa using n3) (by simpa using n9) hcall hnx hq hk⟩
     rw [ed,eu]
     simp [jG,n0,n3,n9]
   ·have hq:(h.pos == 19)=true:=by simpa using hp
    have ep:cZ c h=kT c h:=by simp [cZ,hok,hp]
    cases hs:(h.seen != 0) with
    | true =>
     refine ⟨lv c h,?_,fun v1 v2 lo W o1 o2 _=>uC c h v1 v2 lo W o1 o2 hc0 hc1 hs hq hk⟩
     have h0:¬ h.seen=0:=by simpa using hs
     rw [ep]
     by_cases h3:h.seen=3
     ·simp only [kT,lv,h3,beq_self_eq_true,if_true,Oh,jH]
      cases ht:bn c h.grow 3 6 (cellAt c h.grow).t with
      | true=>simp [eu]
      | false=>rw [jv ht];simp [eu]
     ·simp [kT,fK,lv,h3,h0,kU]
    | false =>
     have h0:h.seen=0:=by simpa using hs
     have e8:cZ c h=jH c h 1 0 (df h):=by rw [ep];simp [kT,fK,h0]
     cases ht:bn c h.grow 0 1 0 with
     | true =>
      refine ⟨(bf c h.grow 0 1 0,df h,true),?_,fun v1 v2 lo W o1 o2 _=>uD c h v1 v2 lo W o1 o2 hc0 hc1 hs hcall hnx ht hq hk⟩
      rw [e8,eu]
      simp [jH,h0,ht]
     | false =>
      refine ⟨(bf c h.grow 0 1 0,{ h with pos:=18 },true),?_,fun v1 v2 lo W o1 o2 _=>sD c h v1 v2 lo W o1 o2 hc0 hc1 hs ht hq hk⟩
      rw [e8,eu]
      simp [jH,h0,ht]
   ·have hq:(h.pos == 20)=true:=by simpa using hp
    refine ⟨BU c { h with pos:=21 } { h with pos:=22 },?_,fun v1 v2 lo W o1 o2 hl=>xh c h v1 v2 lo W o1 o2 hc hl hk hq⟩
    unfold BU
    cases ht:eU c h.wait 1 with
    | true=>simp [cZ,aY,hok,hp,pE,ht,eu]
    | false=>simp [cZ,aY,hok,hp,pE,ht,eu,Ff ht]
   ·have hq:(h.pos == 21)=true:=by simpa using hp
    refine ⟨(bH c h.grow 2,df h,true),?_,fun v1 v2 lo W o1 o2 _=>xk c h v1 v2 lo W o1 o2 hc0 hc1 hcall hnx hq hk⟩
    simp [cZ,aY,hok,hp,eu]
   ·have hq:(h.pos == 22)=true:=by simpa using hp
    refine ⟨(bH c h.grow 9,{ h with pos:=16 },true),?_,fun v1 v2 lo W o1 o2 _=>xm c h v1 v2 lo W o1 o2 hc0 hc1 hq hk⟩
    simp [cZ,aY,hok,hp,eu]
  ·have hno:aX c h 16 22 2=false:=by
    have:dL h.pos 16 22=false:=by simp [dL];omega
    simp [aX,this]
   have Qj:=Ip hh
   have far:∀ k:Int,16≤k→k≤22→(h.pos == k)=false:=fun k h1 h2=>by simp;omega
   exact ⟨nothing,by rw [kU];simp [cZ,aY,hno],fun v1 v2 lo W o1 o2 _=>uE c h v1 v2 lo W o1 o2 hk (far 16 tO tO) (far 17 tO tO) (far 18 tO tO) (far 19 tO tO) (far 20 tO tO) (far 21 tO tO) (far 22 tO tO) (by simp;omega)⟩
theorem uG (c:Ch) (h:Ha) (a b:Option Addr) (p q:Nat) (w:World) (h1:eY w w.heap.size a c.cells) (z1:a=none→p=0) (h2:eZ w w.heap.size b c.words) (z2:b=none→q=0) (l1:c.cells.length≤maxLen) (l2:c.words.length≤maxLen) :
  Calls Tryz.prog 267 #[.agg (af c (.slice a c.cells.length p) (.slice b c.words.length q)),.agg (aa h)] w fun r w'=>bQ w w' (cZ c h) r:=by
 have K:∀ (w:World),eY w w.heap.size a c.cells→(a=none→p=0)→eZ w w.heap.size b c.words→(b=none→q=0)→Calls Tryz.prog 236 #[.func (.func 268) #[] #[],.agg (af c (.slice a c.cells.length p) (.slice b c.words.length q)),.agg (aa h)] w fun r w'=>bQ w w' (cZ c h) r:=by
  intro w h1 z1 h2 z2
  cases hc:aG c with
  | false =>
   rw [show cZ c h=nothing by simp [cZ,aY,aX,hc]]
   exact mR _ c h a b p q w h1 z1 h2 z2 l1 l2 hc
  | true =>
   cases hh:bF h with
   | false =>
    rw [show cZ c h=nothing by simp [cZ,aY,aX,hh]]
    exact mU _ c h a b p q w h1 z1 h2 z2 l1 l2 hc hh
   | true =>
    obtain ⟨x,e,HT⟩:=uF c h hc hh
    rw [e]
    exact mQ _ x c h a b p q w h1 z1 h2 z2 hc hh (fun args w=>by simp [go_sem]) HT
 generalize cZ c h=x at *
 have T:=Lib.hid K
 have H1:=Lib.hid h1
 have H2:=Lib.hid h2
 have Z1:=Lib.hid z1
 have Z2:=Lib.hid z2
 clear h1 h2 z1 z2 K
 have d1:∀ j,(Value.slice none 0 0).ownBlock=some j→w.heap.size+1+1+1+1≤j:=fun j hj=>by cases hj
 have d2:=d1
 go_enter Tryz.func267,Tryz.ntmps267
 go_wp2_with fail;refine au w zB fun bb=>?_;refine (T.out _ (aT H1 bb) Z1.out (aT H2 bb) Z2.out).mono ?_;rintro _ w9 ⟨⟨y1,y2,rfl,aO,aQ,dH,dF⟩,eX⟩;obtain ⟨tT,jd,zz⟩:=dV bb eX (b:=w.heap.size);(try simp at jd);(try simp [go_sem] at zz);replace bX:=dx zz;clear zz eX bb
 replace aO:ah w9 w.heap.size y1 x.1.cells:=ay aO (by simp;omega)
 replace aQ:ai w9 w.heap.size y2 x.1.words:=ay aQ (by simp;omega)
 obtain ⟨⟨aD,aF⟩,dQ,dR⟩:=kH (w:=w) (w.heap.size+1+1+1+1) dH dF d1 d2;obtain ⟨ya,yp,rfl,_⟩:=aO.seg;obtain ⟨yb,yq,rfl,_⟩:=aQ.seg
 go_wp2
 refine rE Tryz.results267 rfl (az x.1 (.slice ya x.1.cells.length yp) (.slice yb x.1.words.length yq) tY) rfl (aj x.2.1 tY) ⟨⟨_,_,rfl,?_,?_,dQ,dR⟩,by exact zB⟩
 ·exact zP aO aO aD
 ·exact zP aQ aQ aF
end
section
open Go.RowKit
attribute [local simp] aI
attribute [local go_sem ↓] aH aU aM bz aN bB aA aK ax aB
def iY (h:Ha) (x:Int):Ha:=if x == 0 then h else if x == 2 then { h with pos:=25 } else if h.code == 1 then aS 1 0 else { h with pos:=24 }
theorem vL (c:Ch) (v:Int) (v1 v2:Value) (lo:Nat) (w:World) (h1:ah w lo v1 c.cells) (h2:ai w lo v2 c.words) (hc:aG c=true) :
  Calls Tryz.prog 280 #[.agg (af c v1 v2),.int .i64 v] w fun r w'=>r=.returned (.int .i64 (gq c v))∧Below w.heap.size w w':=by
 obtain ⟨n1,n2⟩:=iW hc
 obtain ⟨a,p,rfl,g1⟩:=h1.seg
 obtain ⟨b,q,rfl,g2⟩:=h2.seg
 exact BP c v a b p q w g1 g2 (by unfold maxLen;omega) (by unfold maxLen;omega)
theorem jw (c:Ch) (h:Ha) (v1 v2:Value) (lo:Nat) (w:World) (h1:ah w lo v1 c.cells) (h2:ai w lo v2 c.words) (hc:aG c=true) (x:Int) (hx:gq c h.mine=x) (hp:¬ x<0) :
  Calls Tryz.prog 276 #[.agg (af c v1 v2),.agg (aa h)] w fun r w'=>r=.returned (.int .i64 x)∧Below w.heap.size w w':=by
 have WO:=Lib.hid fun W a b=>vL c h.mine v1 v2 lo W a b hc
 rw [hx] at WO
 clear hx
 obtain ⟨a1,q1,a2,q2,rfl,rfl,O1,O2,b1,b2⟩:=qH h1 h2
 clear h1 h2
 have o1:=O1.out
 have o2:=O2.out
 go_enter Tryz.func276,Tryz.ntmps276
 go_wp2_with fail;refine au w zB fun bb=>?_;refine (WO.out _ (zO o1 o1) (zO o2 o2)).mono ?_;rintro _ w1 ⟨rfl,ag⟩;obtain ⟨aV,ak,zz⟩:=Bj bb ag (b:=w.heap.size);(try simp at ak);(try simp [go_sem] at zz);replace bX:=xU zz;clear zz ag bb
 go_wp2
 go_ret
 exact ⟨rfl,by exact zB⟩
theorem Cw (c:Ch) (h:Ha) (v1 v2:Value) (lo:Nat) (w:World) (h1:ah w lo v1 c.cells) (h2:ai w lo v2 c.words) (hc:aG c=true) (hx:gq c h.mine=-1) :
  Calls Tryz.prog 276 #[.agg (af c v1 v2),.agg (aa h)] w fun e W'=>∃ T s,e=.panicked [{ v:=.iface T s,recovered:=false }]∧Below w.heap.size w W':=by
 have WO:=Lib.hid fun W a b=>vL c h.mine v1 v2 lo W a b hc
 rw [hx] at WO
 clear hx
 obtain ⟨a1,q1,a2,q2,rfl,rfl,O1,O2,b1,b2⟩:=qH h1 h2
 clear h1 h2
 have o1:=O1.out
 have o2:=O2.out
 go_enter Tryz.func276,Tryz.ntmps276
 go_wp2_with fail;refine au w zB fun bb=>?_;refine (WO.out _ (zO o1 o1) (zO o2 o2)).mono ?_;rintro _ w1 ⟨rfl,ag⟩;obtain ⟨aV,ak,zz⟩:=Bj bb ag (b:=w.heap.size);(try simp at ak);(try simp [go_sem] at zz);replace bX:=xU zz;clear zz ag bb
 go_wp2
 exact ⟨rfl,_,_,rfl,by exact zB⟩
theorem Cx (k e:Int) (w:World):Calls Tryz.prog 279 #[.agg #[.int .i64 k,.int .i64 e]] w fun r w'=>r=.returned (.int .i64 (if k == 1 then 9 else 10))∧Below w.heap.size w w':=by
 go_enter Tryz.func279,Tryz.ntmps279
 go_wp2
 all_goals go_ret
 all_goals exact ⟨jm (by simp_all),by exact zB⟩
theorem K7 (h:Ha) (x:Int) (w:World) (hx:x=0):Calls Tryz.prog 277 #[.agg (aa h),.int .i64 x] w fun r w'=>r=.returned (.agg (aa h))∧Below w.heap.size w w':=by
 go_enter Tryz.func277,Tryz.ntmps277
 subst hx
 go_wp2
 exact bodyPost_ret (gH Tryz.results277 rfl (aj h tZ)) rfl ⟨rfl,by exact zB⟩
theorem K8 (h:Ha) (x:Int) (w:World) (hx:x=2):Calls Tryz.prog 277 #[.agg (aa h),.int .i64 x] w fun r w'=>r=.returned (.agg (aa { h with pos:=25 }))∧Below w.heap.size w w':=by
 go_enter Tryz.func277,Tryz.ntmps277
 subst hx
 go_wp2_with fail;refine au w zB fun bb=>?_;refine (dm _ _ _).mono ?_;rintro _ w1 ⟨rfl,ag⟩;obtain ⟨aV,ak,zz⟩:=Bj bb ag (b:=w.heap.size);(try simp at ak);(try simp [go_sem] at zz);replace bX:=xU zz;clear zz ag bb
 go_wp2
 exact bodyPost_ret (gH Tryz.results277 rfl (aj { h with pos:=25 } tZ)) rfl ⟨rfl,by exact zB⟩
theorem K9 (h:Ha) (x:Int) (w:World) (h0:(x == 0)=false) (h2:(x == 2)=false) (hk:(h.code == 1)=true):Calls Tryz.prog 277 #[.agg (aa h),.int .i64 x] w fun r w'=>r=.returned (.agg (aa (aS 1 0)))∧Below w.heap.size w w':=by
 go_enter Tryz.func277,Tryz.ntmps277
 go_wp2_with fail;refine au w zB fun bb=>?_;refine (gY _ _ _).mono ?_;rintro _ w1 ⟨rfl,ag⟩;obtain ⟨aV,ak,zz⟩:=Bj bb ag (b:=w.heap.size);(try simp at ak);(try simp [go_sem] at zz);replace bX:=xU zz;clear zz ag bb
 go_wp2
 exact bodyPost_ret (gH Tryz.results277 rfl (aj (aS 1 0) tZ)) rfl ⟨rfl,by exact zB⟩
theorem KA (h:Ha) (x:Int) (w:World) (h0:(x == 0)=false) (h2:(x == 2)=false) (hk:(h.code == 1)=false):Calls Tryz.prog 277 #[.agg (aa h),.int .i64 x] w fun r w'=>r=.returned (.agg (aa { h with pos:=24 }))∧Below w.heap.size w w':=by
 go_enter Tryz.func277,Tryz.ntmps277
 go_wp2_with fail;refine au w zB fun bb=>?_;refine (dm _ _ _).mono ?_;rintro _ w1 ⟨rfl,ag⟩;obtain ⟨aV,ak,zz⟩:=Bj bb ag (b:=w.heap.size);(try simp at ak);(try simp [go_sem] at zz);replace bX:=xU zz;clear zz ag bb
 go_wp2
 exact bodyPost_ret (gH Tryz.results277 rfl (aj { h with pos:=24 } tZ)) rfl ⟨rfl,by exact zB⟩
theorem Fh (h:Ha) (x:Int) (w:World):Calls Tryz.prog 277 #[.agg (aa h),.int .i64 x] w fun r w'=>r=.returned (.agg (aa (iY h x)))∧Below w.heap.size w w':=by
 by_cases h0:x=0
 ·rw [show iY h x=h by simp [iY,h0]]
  exact K7 h x w h0
 by_cases h2:x=2
 ·rw [show iY h x={ h with pos:=25 } by simp [iY,h2]]
  exact K8 h x w h2
 have e0:(x == 0)=false:=by simpa using h0
 have e2:(x == 2)=false:=by simpa using h2
 cases hk:(h.code == 1) with
 | true =>
  rw [show iY h x=aS 1 0 by simp only [iY,e0,e2,hk];rfl]
  exact K9 h x w e0 e2 hk
 | false =>
  rw [show iY h x={ h with pos:=24 } by simp only [iY,e0,e2,hk];rfl]
  exact KA h x w e0 e2 hk
theorem Cy (c:Ch) (h:Ha) (v1 v2:Value) (lo:Nat) (w:World) (h1:ah w lo v1 c.cells) (h2:ai w lo v2 c.words) (hk:(h.code != 2)=true) :
  Calls Tryz.prog 278 #[.agg (af c v1 v2),.agg (aa h)] w fun e W'=>∃ T s,e=.panicked [{ v:=.iface T s,recovered:=false }]∧Below w.heap.size w W':=by
 obtain ⟨a1,q1,a2,q2,rfl,rfl,O1,O2,b1,b2⟩:=qH h1 h2
 clear h1 h2
 have o1:=O1.out
 have o2:=O2.out
 go_enter Tryz.func278,Tryz.ntmps278
 go_wp2
 exact ⟨rfl,_,_,rfl,by exact zB⟩
theorem zS (c:Ch) (h:Ha) (v1 v2:Value) (lo:Nat) (w:World) (h1:ah w lo v1 c.cells) (h2:ai w lo v2 c.words) (hc0:0≤h.cell) (hc1:h.cell<c.cells.length) (hk:(h.code != 2)=false) :
  Calls Tryz.prog 278 #[.agg (af c v1 v2),.agg (aa h)] w fun r w'=>r=.returned (.agg (aa (aS 2 (cellAt c h.cell).e)))∧Below w.heap.size w w':=by
 obtain ⟨i,hci⟩:∃ i:Nat,h.cell=(i:Int):=⟨h.cell.toNat,by omega⟩
 have hi:i<c.cells.length:=by omega
 have hi0:(0:Int)≤(i:Int):=by omega
 have hi1:(i:Int)<(c.cells.length:Int):=by omega
 have hne:=h1.ne h2
 obtain ⟨a2,q2,rfl,_⟩:=h2.seg
 obtain ⟨g,q1,rfl,hlo1,hlt,hcell,hfr⟩:=h1.open1 hi
 have O1:=Lib.hid h1
 have O2:=Lib.hid h2
 have jN:g<w.heap.size+1:=by omega
 have jO:g<w.heap.size+1+1:=by omega
 have jP:g<w.heap.size+1+1+1:=by omega
 have xV:g≠w.heap.size:=by omega
 have xW:g≠w.heap.size+1:=by omega
 have xX:g≠w.heap.size+1+1:=by omega
 have xY:g≠w.heap.size+1+1+1:=by omega
 have zo:w.heap.size≠g:=by omega
 have zq:w.heap.size+1≠g:=by omega
 have zt:w.heap.size+1+1≠g:=by omega
 have zu:w.heap.size+1+1+1≠g:=by omega
 have hx:Hid (cellAt c h.cell=c.cells.getD i ⟨0,0,0⟩):=by simp [cellAt,Hid,hci]
 have c0:=hcell 0 tO
 have c1:=hcell 1 tO
 have c2:=hcell 2 tO
 simp only [C3.val,Nat.add_zero] at c0 c1 c2
 have ex:=hx.out
 rw [ex]
 generalize c.cells.getD i ⟨0,0,0⟩=x at *
 obtain ⟨s,e,t⟩:=x
 simp only at c0 c1 c2 ⊢
 clear hx ex hcell h1 h2
 go_enter Tryz.func278,Tryz.ntmps278
 go_wp2_with fail;refine au w zB fun bb=>?_;refine (gY _ _ _).mono ?_;rintro _ w1 ⟨rfl,ag⟩;obtain ⟨aV,ak,zz⟩:=DX bb ag (b:=w.heap.size);(try simp at ak);(try simp [go_sem] at zz);replace bX:=DW zz;clear zz ag bb
 go_wp2
 exact bodyPost_ret (gH Tryz.results278 rfl (aj (aS 2 e) tZ)) rfl ⟨rfl,by exact zB⟩
end
section
open Go.RowKit
attribute [local simp] aI
attribute [local go_sem ↓] aH aU aM bz aN bB aA aK ax aB
theorem zT (c:Ch) (h:Ha) (v1 v2:Value) (lo:Nat) (w:World) (h1:ah w lo v1 c.cells) (h2:ai w lo v2 c.words) (hc:aG c=true) (hx:gq c h.mine=-1) :
  Calls Tryz.prog 275 #[.agg (af c v1 v2),.agg (aa h)] w fun e W'=>∃ T s,e=.panicked [{ v:=.iface T s,recovered:=false }]∧Below w.heap.size w W':=by
 have OW:=Lib.hid fun W a b=>Cw c h v1 v2 lo W a b hc hx
 clear hx hc
 obtain ⟨a1,q1,a2,q2,rfl,rfl,O1,O2,b1,b2⟩:=qH h1 h2
 clear h1 h2
 have o1:=O1.out
 have o2:=O2.out
 go_enter Tryz.func275,Tryz.ntmps275
 go_wp2_with fail
 refine au w zB fun bb=>?_
 refine (OW.out _ (zO o1 o1) (zO o2 o2)).mono ?_
 rintro _ w1 ⟨T,s,rfl,hE⟩
 go_wp2
 exact ⟨rfl,T,s,rfl,bT bb hE⟩
theorem xu (c:Ch) (h:Ha) (v1 v2:Value) (lo:Nat) (w:World) (h1:ah w lo v1 c.cells) (h2:ai w lo v2 c.words) (hc:aG c=true) (x:Int) (hx:gq c h.mine=x) (hp:¬ x<0) (hq:(h.pos == 23)=true) :
  bY 275 c h v1 v2 lo w ((c,iY h x,x != 0)):=by
 have OW:=Lib.hid fun W a b=>jw c h v1 v2 lo W a b hc x hx hp
 clear hx hp hc
 have HE:=Lib.hid fun W=>Fh h x W
 obtain ⟨y,hy⟩:∃ y,iY h x=y:=⟨_,rfl⟩
 rw [hy] at HE
 rw [hy]
 clear hy
 obtain ⟨a1,q1,a2,q2,rfl,rfl,O1,O2,b1,b2⟩:=qH h1 h2
 clear h1 h2
 have o1:=O1.out
 have o2:=O2.out
 go_enter Tryz.func275,Tryz.ntmps275
 go_wp2_with fail;refine au w zB fun bb=>?_;refine (OW.out _ (zO o1 o1) (zO o2 o2)).mono ?_;rintro _ w1 ⟨rfl,ag⟩;obtain ⟨aV,ak,zz⟩:=dV bb ag (b:=w.heap.size);(try simp at ak);(try simp [go_sem] at zz);replace bX:=dx zz;clear zz;have eD:=aV;clear ag bb
 have p1:=own_below o1 eD
 have p2:=own_below o2 eD
 obtain ⟨k0,k1,k2,k3⟩:=jW (a:=w.heap.size) (b:=w1.heap.size)
 go_wp2_with fail
 go_region_held3 (fun w'=>hp w' w.heap.size=some (.cells (af c (.slice a1 c.cells.length q1) (.slice a2 c.words.length q2)) 31)∧hp w' (w.heap.size+1)=some (.cells (aa h) 49))
  (first|(simp [*,go_sem]))
  (first|((go_at_call 277;refine au w zB fun bb=>?_;refine au w1 zB fun bk=>?_;refine (HE.out _).mono ?_;rintro _ w2 ⟨rfl,hbw2⟩;obtain ⟨dh,aR,zz⟩:=dV bb hbw2 (b:=w.heap.size);(try simp at aR);(first|simp [go_sem,bX,k0,k1,k2,k3] at zz|simp [go_sem] at zz|skip);replace bX:=dx zz;clear zz;have dW:=bT bk hbw2;clear hbw2 bb bk);have r1:=own_below p1 dW;have r2:=own_below p2 dW))
 go_wp2
 refine rE Tryz.results275 rfl (az c (.slice a1 c.cells.length q1) (.slice a2 c.words.length q2) tZ) rfl (aj y tZ) ⟨⟨_,_,rfl,?_,?_,av _ _,av _ _⟩,dA zB⟩
 ·exact zO r1 o1
 ·exact zO r2 o2
theorem uH (c:Ch) (h:Ha) (v1 v2:Value) (lo:Nat) (w:World) (h1:ah w lo v1 c.cells) (h2:ai w lo v2 c.words) (hc:aG c=true) (x:Int) (hx:gq c h.mine=x) (hp:¬ x<0) (hq:(h.pos == 24)=true) (hk:(h.code != 2)=true) :
  Calls Tryz.prog 275 #[.agg (af c v1 v2),.agg (aa h)] w fun e W'=>∃ T s,e=.panicked [{ v:=.iface T s,recovered:=false }]∧Below w.heap.size w W':=by
 have OW:=Lib.hid fun W a b=>jw c h v1 v2 lo W a b hc x hx hp
 clear hx hp hc
 have FE:=Lib.hid fun W a b=>Cy c h v1 v2 lo W a b hk
 clear hk
 have hq3:(h.pos == 23)=false:=by simp at hq ⊢;omega
 obtain ⟨a1,q1,a2,q2,rfl,rfl,O1,O2,b1,b2⟩:=qH h1 h2
 clear h1 h2
 have o1:=O1.out
 have o2:=O2.out
 go_enter Tryz.func275,Tryz.ntmps275
 go_wp2_with fail;refine au w zB fun bb=>?_;refine (OW.out _ (zO o1 o1) (zO o2 o2)).mono ?_;rintro _ w1 ⟨rfl,ag⟩;obtain ⟨aV,ak,zz⟩:=dV bb ag (b:=w.heap.size);(try simp at ak);(try simp [go_sem] at zz);replace bX:=dx zz;clear zz;have eD:=aV;clear ag bb
 have p1:=own_below o1 eD
 have p2:=own_below o2 eD
 obtain ⟨k0,k1,k2,k3⟩:=jW (a:=w.heap.size) (b:=w1.heap.size)
 go_upto_region 6 with fail
 refine bJ [[],[],[],[1,2],[0],[1,2,3],[]] [23,24,25,26,6] (fun l s wx=>(Below w.heap.size w wx)∧(hp wx w.heap.size=some (.cells (af c (.slice a1 c.cells.length q1) (.slice a2 c.words.length q2)) 31))∧(hp wx (w.heap.size+1)=some (.cells (aa h) 49))∧(l 4=false→hp wx (w.heap.size+1+1)=some (.cells (af Ch.zero (.slice none 0 0) (.slice none 0 0)) 31))∧(ah wx lo (.slice a1 c.cells.length q1) c.cells)∧(ai wx lo (.slice a2 c.words.length q2) c.words)∧(l 0=true→s 23=.agg (af c (.slice a1 c.cells.length q1) (.slice a2 c.words.length q2)))∧(l 1=true→s 24=.agg (af c (.slice a1 c.cells.length q1) (.slice a2 c.words.length q2)))∧(l 2=true→s 25=.agg (aa h))∧(l 3=true→False)) (by kernel_rfl) (by kernel_rfl) (by kernel_rfl) (fun s=>by (simp only [fill,gp,List.setIfInBounds_toArray,List.set_cons_zero,List.set_cons_succ];rfl)) (fun s=>⟨zB,by simp [go_sem, *],by simp [go_sem, *],fun _=>by simp [go_sem, *],uZ p1,uZ p2,nB,nB,nB,nB⟩) ?_ ?_
 refine ⟨?_,?_,?_,?_,?_,?_,?_,trivial⟩;iterate 7 (intro l s wx hl hd hn hf K hK;rotate_left)
 ·intro l s w8 hall hf
  exact ((jD hf).2 (hall 3 rfl)).elim
 ·have zc:=hf.out.2.1
  go_simp
  refine hK.out (upd s 23 (.agg (af c (.slice a1 c.cells.length q1) (.slice a2 c.words.length q2)))) _ _ (by simp [ae] <;> rfl) (kC (kB (kX (fun _=>rfl) id)) hf.out)
 ·have zc:=hf.out.2.1
  go_simp
  refine hK.out (upd s 24 (.agg (af c (.slice a1 c.cells.length q1) (.slice a2 c.words.length q2)))) _ _ (by simp [ae] <;> rfl) (kC (kB (kA (kX (fun _=>rfl) id))) hf.out)
 ·have zh:=hf.out.2.2.1
  go_simp
  refine hK.out (upd s 25 (.agg (aa h))) _ _ (by simp [ae] <;> rfl) (kD (kX (fun _=>rfl) id) hf.out)
 ·have e1:=((jC hf.out).2.2.2.1 (hd 1 rfl))
  have e2:=((jD hf.out).1 (hd 2 rfl))
  go_simp
  go_at_call 278
  refine (FE.out _ hf.out.2.2.2.2.1 (jC hf.out).2.1).mono ?_
  rintro _ wy ⟨T,sv,rfl,hE⟩
  exact ⟨rfl,T,sv,rfl,bT hf.out.1 hE⟩
 ·have e0:=((jC hf.out).2.2.1 (hd 0 rfl))
  have hB:=hf.out.1
  have zr:=hf.out.2.2.2.1 hl
  go_simp
  refine hK.out (s) _ _ (by simp [ae,e0] <;> rfl) (kX (ME hB tO) (kX ((aL tO).trans hf.out.2.1) (kX ((aL tO).trans hf.out.2.2.1) (kX (fun h9=>absurd h9 (by rw [show upd l 4 true 4=true from rfl];decide)) (kX (dG hf.out.2.2.2.2.1 zr (by decide)) (kX (dG (jC hf.out).2.1 zr (by decide)) id))))) hf.out)
 ·exact ((jD hf).2 (hd 3 rfl)).elim
 ·go_simp
  refine hK.out (upd s 6 (.bool true)) _ _ (by simp [ae] <;> rfl) (hf.out)
theorem xw (c:Ch) (h:Ha) (v1 v2:Value) (lo:Nat) (w:World) (h1:ah w lo v1 c.cells) (h2:ai w lo v2 c.words) (hc0:0≤h.cell) (hc1:h.cell<c.cells.length) (hc:aG c=true) (x:Int) (hx:gq c h.mine=x) (hp:¬ x<0) (hq:(h.pos == 24)=true) (hk:(h.code != 2)=false) :
  bY 275 c h v1 v2 lo w ((c,aS 2 (cellAt c h.cell).e,true)):=by
 have OW:=Lib.hid fun W a b=>jw c h v1 v2 lo W a b hc x hx hp
 clear hx hp hc
 have FE:=Lib.hid fun W a b=>zS c h v1 v2 lo W a b hc0 hc1 hk
 clear hk hc0 hc1
 have hq3:(h.pos == 23)=false:=by simp at hq ⊢;omega
 obtain ⟨y,hy⟩:∃ y,aS 2 (cellAt c h.cell).e=y:=⟨_,rfl⟩
 rw [hy] at FE
 rw [hy]
 clear hy
 obtain ⟨a1,q1,a2,q2,rfl,rfl,O1,O2,b1,b2⟩:=qH h1 h2
 clear h1 h2
 have o1:=O1.out
 have o2:=O2.out
 go_enter Tryz.func275,Tryz.ntmps275
 go_wp2_with fail;refine au w zB fun bb=>?_;refine (OW.out _ (zO o1 o1) (zO o2 o2)).mono ?_;rintro _ w1 ⟨rfl,ag⟩;obtain ⟨aV,ak,zz⟩:=dV bb ag (b:=w.heap.size);(try simp at ak);(try simp [go_sem] at zz);replace bX:=dx zz;clear zz;have eD:=aV;clear ag bb
 have p1:=own_below o1 eD
 have p2:=own_below o2 eD
 obtain ⟨k0,k1,k2,k3⟩:=jW (a:=w.heap.size) (b:=w1.heap.size)
 go_wp2_with fail
 go_region_held3 (fun w'=>hp w' w.heap.size=some (.cells (af c (.slice a1 c.cells.length q1) (.slice a2 c.words.length q2)) 31)∧hp w' (w.heap.size+1)=some (.cells (aa h) 49))
  (first|(simp [*,go_sem]))
  (first|((go_at_call 278;refine au w zB fun bb=>?_;refine au w1 zB fun bk=>?_;refine (FE.out _ (zO p1 p1) (zO p2 p2)).mono ?_;rintro _ w2 ⟨rfl,hbw2⟩;obtain ⟨dh,aR,zz⟩:=dV bb hbw2 (b:=w.heap.size);(try simp at aR);(first|simp [go_sem,bX,k0,k1,k2,k3] at zz|simp [go_sem] at zz|skip);replace bX:=dx zz;clear zz;have dW:=bT bk hbw2;clear hbw2 bb bk);have r1:=own_below p1 dW;have r2:=own_below p2 dW))
 go_wp2
 refine rE Tryz.results275 rfl (az c (.slice a1 c.cells.length q1) (.slice a2 c.words.length q2) tZ) rfl (aj y tZ) ⟨⟨_,_,rfl,?_,?_,av _ _,av _ _⟩,dA zB⟩
 ·exact zO r1 o1
 ·exact zO r2 o2
theorem zU (c:Ch) (h:Ha) (v1 v2:Value) (lo:Nat) (w:World) (h1:ah w lo v1 c.cells) (h2:ai w lo v2 c.words) (hc:aG c=true) (x:Int) (hx:gq c h.mine=x) (hp:¬ x<0) (hq:(h.pos == 23)=false) (hq4:(h.pos == 24)=false) (Ns:(h.pos == 25)=false) :
  Calls Tryz.prog 275 #[.agg (af c v1 v2),.agg (aa h)] w fun e W'=>∃ T s,e=.panicked [{ v:=.iface T s,recovered:=false }]∧Below w.heap.size w W':=by
 have OW:=Lib.hid fun W a b=>jw c h v1 v2 lo W a b hc x hx hp
 clear hx hp hc
 obtain ⟨a1,q1,a2,q2,rfl,rfl,O1,O2,b1,b2⟩:=qH h1 h2
 clear h1 h2
 have o1:=O1.out
 have o2:=O2.out
 go_enter Tryz.func275,Tryz.ntmps275
 go_wp2_with fail;refine au w zB fun bb=>?_;refine (OW.out _ (zO o1 o1) (zO o2 o2)).mono ?_;rintro _ w1 ⟨rfl,ag⟩;obtain ⟨aV,ak,zz⟩:=dV bb ag (b:=w.heap.size);(try simp at ak);(try simp [go_sem] at zz);replace bX:=dx zz;clear zz;have eD:=aV;clear ag bb
 have p1:=own_below o1 eD
 have p2:=own_below o2 eD
 obtain ⟨k0,k1,k2,k3⟩:=jW (a:=w.heap.size) (b:=w1.heap.size)
 go_wp2
 exact ⟨rfl,_,_,rfl,by exact zB⟩
theorem xx (c:Ch) (h:Ha) (v1 v2:Value) (lo:Nat) (w:World) (h1:ah w lo v1 c.cells) (h2:ai w lo v2 c.words) (hc0:0≤h.cell) (hc1:h.cell<c.cells.length) (hc:aG c=true) (x:Int) (hx:gq c h.mine=x) (hp:¬ x<0) (hq:(h.pos == 25)=true) :
  bY 275 c h v1 v2 lo w ((bH c h.cell (vF h),aS 3 0,true)):=by
 have OW:=Lib.hid fun W a b=>jw c h v1 v2 lo W a b hc x hx hp
 clear hx hp hc
 obtain ⟨v,hv⟩:∃ v,vF h=v:=⟨_,rfl⟩
 have GO:=Lib.hid fun W=>Cx h.code h.elem W
 rw [show (if h.code == 1 then (9:Int) else 10)=v from hv] at GO
 rw [hv]
 clear hv
 obtain ⟨i,hci⟩:∃ i:Nat,h.cell=(i:Int):=⟨h.cell.toNat,by omega⟩
 have hi:i<c.cells.length:=by omega
 have hi0:(0:Int)≤(i:Int):=by omega
 have hi1:(i:Int)<(c.cells.length:Int):=by omega
 have hne:=h1.ne h2
 obtain ⟨a2,q2,rfl,_⟩:=h2.seg
 obtain ⟨g,q1,rfl,hlo1,hlt,hcell,hfr⟩:=h1.open1 hi
 have O1:=Lib.hid h1
 have O2:=Lib.hid h2
 have jN:g<w.heap.size+1:=by omega
 have jO:g<w.heap.size+1+1:=by omega
 have jP:g<w.heap.size+1+1+1:=by omega
 have xV:g≠w.heap.size:=by omega
 have xW:g≠w.heap.size+1:=by omega
 have xX:g≠w.heap.size+1+1:=by omega
 have xY:g≠w.heap.size+1+1+1:=by omega
 have zo:w.heap.size≠g:=by omega
 have zq:w.heap.size+1≠g:=by omega
 have zt:w.heap.size+1+1≠g:=by omega
 have zu:w.heap.size+1+1+1≠g:=by omega
 have hx:Hid (cellAt c h.cell=c.cells.getD i ⟨0,0,0⟩):=by simp [cellAt,Hid,hci]
 have c0:=hcell 0 tO
 have c1:=hcell 1 tO
 have c2:=hcell 2 tO
 simp only [C3.val,Nat.add_zero] at c0 c1 c2
 have hq3:(h.pos == 23)=false:=by simp at hq ⊢;omega
 have hq4:(h.pos == 24)=false:=by simp at hq ⊢;omega
 rw [show bH c h.cell v=bH c i v by rw [hci]]
 have e1:=iq c i v
 have P1:=fun W (o:ah W lo (.slice (some ⟨g,0,none⟩) c.cells.length q1) c.cells)=>ah.setS o hi v
 rw [← e1] at P1
 clear hx hcell h1 h2 e1
 generalize c.cells.getD i ⟨0,0,0⟩=x0 at *
 have o1:=O1.out
 have o2:=O2.out
 have MO:=Lib.hid hci
 clear hci hc0 hc1
 go_enter Tryz.func275,Tryz.ntmps275
 go_wp2_with fail;refine au w zB fun bb=>?_;refine (OW.out _ (zO o1 o1) (zO o2 o2)).mono ?_;rintro _ w1 ⟨rfl,ag⟩;have aV:Below w.heap.size w w1:=bT bb ag;have ak:=ag.size;(try simp at ak);have zz:=q4 ag (b:=w.heap.size);(try simp [go_sem] at zz);(try clear aJ cu cz bq);(try clear bg dJ dK bW);(try clear dE dS dZ dz);(try clear bG di dC bV);obtain ⟨aJ,bg,dE,bG⟩:=zz;obtain ⟨cu,cz,bq⟩:=bO aJ;obtain ⟨dJ,dK,bW⟩:=bO bg;obtain ⟨dS,dZ,dz⟩:=bO dE;obtain ⟨di,dC,bV⟩:=bO bG;have eD:Below w.heap.size w w1:=aV;clear ag bb
 have p1:=own_below o1 eD
 have p2:=own_below o2 eD
 obtain ⟨k0,k1,k2,k3⟩:=jW (a:=w.heap.size) (b:=w1.heap.size)
 go_upto_region 8 with fail
 refine bJ [[],[0],[],[2],[],[4],[4,5],[0,1,2,3],[0,1,2,3,7],qB [8]] [29,30,31,32,33,34,35,36,37] (fun l s wx=>(l 9=false→Below w1.heap.size w1 wx)∧(l 0=true→s 29=.pointer (some ⟨w.heap.size,4,none⟩))∧(l 1=true→s 30=.slice (some ⟨g,0,none⟩) c.cells.length q1)∧(l 2=true→s 31=.pointer (some ⟨w.heap.size+1,3,none⟩))∧(l 3=true→s 32=.int .i64 i)∧(l 4=true→s 33=.pointer (some ⟨w.heap.size+1,1,none⟩))∧(l 5=true→s 34=.agg #[.int .i64 h.code,.int .i64 h.elem])∧(l 6=true→s 35=.int .i64 v)∧(l 7=true→s 36=.pointer (some ⟨g,i*3,none⟩))∧(l 8=true→s 37=.pointer (some ⟨g,i*3,none⟩))∧(l 9=true→Gr g w1 wx∧ah wx lo (.slice (some ⟨g,0,none⟩) c.cells.length q1) (bH c i v).cells∧ai wx lo (.slice a2 c.words.length q2) c.words)) (by kernel_rfl) (by kernel_rfl) (by kernel_rfl) (fun s=>by (simp only [fill,gp,List.setIfInBounds_toArray,List.set_cons_zero,List.set_cons_succ];rfl)) (fun s=>⟨fun _=>(Below.refl _ _).drew,nB,nB,nB,nB,nB,nB,nB,nB,nB,nB⟩) ?_ ?_
 refine ⟨?_,?_,?_,?_,?_,?_,?_,?_,?_,?_,trivial⟩;iterate 10 (intro l s wx hl hd hn hf K hK;rotate_left)
 ·intro l s w5 hall hf
  obtain ⟨mD,r1,r2⟩:=((jD hf).2.2 (hall 9 rfl))
  clear hf hall
  have OP:some w.heap.size≠some g:=by simp;omega
  have OQ:some (w.heap.size+1)≠some g:=by simp;omega
  have OT:some (w.heap.size+1+1)≠some g:=by simp;omega
  have OU:some (w.heap.size+1+1+1)≠some g:=by simp;omega
  have gK:=mD.size;(try (simp at gK));have zz:=And.intro (dN mD (b:=w.heap.size+1+1+1) tS (by assumption)) <| And.intro (dN mD (b:=w.heap.size+1+1) tS (by assumption)) <| And.intro (dN mD (b:=w.heap.size+1) tS (by assumption)) <| dN mD (b:=w.heap.size) tS (by assumption);(first|simp [go_sem,aJ,bg,dE,bG,bV,dz,bW,bq,k0,k1,k2,k3] at zz|simp [go_sem] at zz|skip);(try clear aJ cu cz bq);(try clear bg dJ dK bW);(try clear dE dS dZ dz);(try clear bG di dC bV);obtain ⟨aJ,bg,dE,bG⟩:=zz;obtain ⟨cu,cz,bq⟩:=bO aJ;obtain ⟨dJ,dK,bW⟩:=bO bg;obtain ⟨dS,dZ,dz⟩:=bO dE;obtain ⟨di,dC,bV⟩:=bO bG
  have Qi:Gr g w w5:=gT (qz aV) mD
  clear mD
  go_wp2_with fail
  go_region_held3 (fun w'=>hp w' w.heap.size=some (.cells (af c (.slice (some ⟨g,0,none⟩) c.cells.length q1) (.slice a2 c.words.length q2)) 31)∧hp w' (w.heap.size+1)=some (.cells (aa h) 49))
   (first|(simp [*,go_sem]))
   (first|(go_at_call 48;refine (gY _ _ _).mono ?_;rintro _ w6 ⟨rfl,fZ⟩;have OV:Gr g w w6:=gT zG (qz fZ);have rY:=fZ.size;(try (simp at rY));have zz:=hQ fZ (b:=w.heap.size);(first|(simp [go_sem,bG,bV] at zz)|(simp [go_sem] at zz));(try clear di dC);(try clear bG);have bG:=zz;clear zz;(try clear bV);obtain ⟨di,dC,bV⟩:=bO bG;have zz:=hQ fZ (b:=w.heap.size+1);(first|(simp [go_sem,dE,dz] at zz)|(simp [go_sem] at zz));(try clear dS dZ);(try clear dE);have dE:=zz;clear zz;(try clear dz);obtain ⟨dS,dZ,dz⟩:=bO dE;have zz:=hQ fZ (b:=w.heap.size+1+1);(first|(simp [go_sem,bg,bW] at zz)|(simp [go_sem] at zz));(try clear dJ dK);(try clear bg);have bg:=zz;clear zz;(try clear bW);obtain ⟨dJ,dK,bW⟩:=bO bg;have zz:=hQ fZ (b:=w.heap.size+1+1+1);(first|(simp [go_sem,aJ,bq] at zz)|(simp [go_sem] at zz));(try clear cu cz);(try clear aJ);have aJ:=zz;clear zz;(try clear bq);obtain ⟨cu,cz,bq⟩:=bO aJ;have p1:ah w6 lo (.slice (some ⟨g,0,none⟩) c.cells.length q1) (bH c i v).cells:=own_below (zO r1 o1) fZ;have p2:ai w6 lo (.slice a2 c.words.length q2) c.words:=own_below (zO r2 o2) fZ))
  go_wp2
  refine rE Tryz.results275 rfl (az (bH c i v) (.slice (some ⟨g,0,none⟩) c.cells.length q1) (.slice a2 c.words.length q2) tZ) rfl (aj (aS 3 0) tZ) ⟨⟨_,_,rfl,?_,?_,av _ _,av _ _⟩,kS (show w.grownBy _ (some g) from zG)⟩
  ·show ah _ lo (.slice (some ⟨g,0,none⟩) c.cells.length q1) (bH c i v).cells
   exact zO p1 o1
  ·show ai _ lo (.slice a2 c.words.length q2) c.words
   exact zO p2 o2
 ·have hB:=hf.out.1 (hn 9 rfl)
  go_simp
  refine hK.out (upd s 29 (.pointer (some ⟨w.heap.size,4,none⟩))) _ _ (by simp [ae] <;> rfl) (kA (kX (fun _=>rfl) id) hf.out)
 ·have e0:=(hf.out.2.1 (hd 0 rfl))
  have hB:=hf.out.1 (hn 9 rfl)
  have zc:=fC bG hB
  have zh:=fC dE hB
  have q:=(bO zc).1 4
  go_simp
  refine hK.out (upd s 30 (.slice (some ⟨g,0,none⟩) c.cells.length q1)) _ _ (by simp [ae,e0] <;> rfl) (kB (kX (fun _=>rfl) id) hf.out)
 ·have hB:=hf.out.1 (hn 9 rfl)
  go_simp
  refine hK.out (upd s 31 (.pointer (some ⟨w.heap.size+1,3,none⟩))) _ _ (by simp [ae] <;> rfl) (kB (kA (kX (fun _=>rfl) id)) hf.out)
 ·have e2:=(hf.out.2.2.2.1 (hd 2 rfl))
  have hB:=hf.out.1 (hn 9 rfl)
  have zc:=fC bG hB
  have zh:=fC dE hB
  have q:wx.cell? ⟨w.heap.size+1,3,none⟩=some (.int .i64 i):=by rw [← MO.out];exact (bO zh).1 3
  go_simp
  refine hK.out (upd s 32 (.int .i64 i)) _ _ (by simp [ae,e2] <;> rfl) (kC (kX (fun _=>rfl) id) hf.out)
 ·have hB:=hf.out.1 (hn 9 rfl)
  go_simp
  refine hK.out (upd s 33 (.pointer (some ⟨w.heap.size+1,1,none⟩))) _ _ (by simp [ae] <;> rfl) (kC (kA (kX (fun _=>rfl) id)) hf.out)
 ·have e4:=((jC hf.out).2.1 (hd 4 rfl))
  have hB:=hf.out.1 (hn 9 rfl)
  have zc:=fC bG hB
  have zh:=fC dE hB
  have qa:=(bO zh).1 1
  have qb:=(bO zh).1 2
  go_simp
  refine hK.out (upd s 34 (.agg #[.int .i64 h.code,.int .i64 h.elem])) _ _ (by simp [ae,e4] <;> rfl) (kC (kB (kX (fun _=>rfl) id)) hf.out)
 ·have e5:=((jC hf.out).2.2.1 (hd 5 rfl))
  have hB:=hf.out.1 (hn 9 rfl)
  go_simp
  go_at_call 279
  refine (GO.out _).mono ?_
  rintro _ wy ⟨rfl,hE⟩
  refine hK.out (upd s 35 (.int .i64 v)) _ _ (by simp [ae,e5] <;> rfl) (kX (fun h9=>bT (hf.out.1 h9) hE) (kC (kB (kX (fun _=>rfl) (kB (fun _=>nU (hn 9 rfl)))))) hf.out)
 ·have e1:=(hf.out.2.2.1 (hd 1 rfl))
  have e3:=(hf.out.2.2.2.2.1 (hd 3 rfl))
  have hB:=hf.out.1 (hn 9 rfl)
  go_simp
  refine hK.out (upd s 36 (.pointer (some ⟨g,i*3,none⟩))) _ _ (by simp [ae,e1,e3] <;> rfl) (kD (kX (fun _=>rfl) id) hf.out)
 ·have e7:=((jD hf.out).1 (hd 7 rfl))
  have hB:=hf.out.1 (hn 9 rfl)
  go_simp
  refine hK.out (upd s 37 (.pointer (some ⟨g,i*3,none⟩))) _ _ (by simp [ae,e7] <;> rfl) (kD (kA (kX (fun _=>rfl) id)) hf.out)
 ·have e8:=((jD hf.out).2.1 (hd 8 rfl))
  have e6:=((jC hf.out).2.2.2.1 (hd 6 rfl))
  have hB:=hf.out.1 hl
  have y0:=((bT aV hB).cell (p:=⟨g,i*3,none⟩) hlt).trans c0
  have yf:=fun o=>((bT aV hB).frozen (p:=⟨g,o,none⟩) hlt).trans (hfr o)
  go_simp
  refine hK.out (s) _ _ (by simp [ae,e8,e6] <;> rfl) (kX (fun h9=>absurd h9 (by rw [show upd l 9 true 9=true from rfl];decide)) (kD (kA (fun _=>fun _=>⟨gS (qz hB) (.inl rfl),P1 _ (own_below p1 hB),bP (own_below p2 hB) (hne g rfl) _⟩))) hf.out)
theorem Cz {c:Ch} {v:Int} (hw:jo c v=false):gq c v=-1:=by simp [gq,hw]
theorem Iq {c:Ch} {v:Int} (hc:aG c=true) (hw:jo c v=true):¬ gq c v<0∧gq c v=dX c v:=by
 have e0:gq c v=dX c v:=by simp [gq,hc,hw]
 refine ⟨?_,e0⟩
 rw [e0]
 simp only [aG,Bool.and_eq_true] at hc
 have ha:=List.all_eq_true.1 hc.2.2
 obtain ⟨h1,h2⟩:=mI.1 hw
 have hi:(v - 1).toNat<c.words.length:=by omega
 have:=kJ.1 (ha _ (List.getElem_mem hi))
 have e:dX c v=c.words[(v - 1).toNat]:=by unfold dX;rw [List.getD_eq_getElem?_getD,List.getElem?_eq_getElem hi];rfl
 rw [e]
 omega
theorem pJ {c:Ch} {h:Ha}:ku (c,h,true)=done c h:=rfl
theorem C8 {h:Ha} (hh:bF h=true) (hp:23≤h.pos):h.code=1∨h.code=2:=by
 simp only [bF,pW,Bool.and_eq_true,kJ] at hh
 have h0:¬ h.pos=0:=by omega
 simp [h0] at hh
 have:=hh.1.2
 simp [dO] at this
 omega
theorem uI (c:Ch) (h:Ha) (hc:aG c=true) (hh:bF h=true) :
  (∃ x:St,bC c h=ku x∧∀ (v1 v2:Value) (lo:Nat) (W:World),ah W lo v1 c.cells→ai W lo v2 c.words→lo≤W.heap.size→Calls Tryz.prog 275 #[.agg (af c v1 v2),.agg (aa h)] W fun r w'=>cK W w' lo v1 v2 x r) ∨
  (bC c h=nothing∧∀ (v1 v2:Value) (lo:Nat) (W:World),ah W lo v1 c.cells→ai W lo v2 c.words→lo≤W.heap.size→Calls Tryz.prog 275 #[.agg (af c v1 v2),.agg (aa h)] W fun e W'=>∃ T s,e=.panicked [{ v:=.iface T s,recovered:=false }]∧Below W.heap.size W W'):=by
 cases hw:jo c h.mine with
 | false=>exact .inr ⟨by simp [bC,hw],fun v1 v2 lo W o1 o2 _=>zT c h v1 v2 lo W o1 o2 hc (Cz hw)⟩
 | true =>
  obtain ⟨hx0,hx1⟩:=Iq hc hw
  obtain ⟨hc0,P9⟩:=fE hh
  have hc1:h.cell<c.cells.length:=by have:=(iW hc).1;omega
  cases hq:(h.pos == 23) with
  | true =>
   have hp:h.pos=23:=by simpa using hq
   refine .inl ⟨(c,iY h (gq c h.mine),gq c h.mine != 0),?_,fun v1 v2 lo W o1 o2 _=>xu c h v1 v2 lo W o1 o2 hc _ rfl hx0 hq⟩
   have hok:aX c h 23 25 0=true:=by simp [aX,hc,hh,hp,dL]
   rw [hx1]
   by_cases h0:dX c h.mine=0
   ·simp [bC,hok,hw,hp,iJ,h0,iY,ku,hc,hh]
   ·have h0':(dX c h.mine != 0)=true:=by simpa using h0
    rw [h0',pJ]
    simp only [bC,hok,hw,hp,iJ,iY]
    simp [h0]
    by_cases h2:dX c h.mine=2
    ·simp [h2]
    ·by_cases hk:h.code=1 <;> simp [h2,hk]
  | false =>
   have hp3:¬ h.pos=23:=by simpa using hq
   cases hq4:(h.pos == 24) with
   | true =>
    have hp:h.pos=24:=by simpa using hq4
    have hok:aX c h 23 25 0=true:=by simp [aX,hc,hh,hp,dL]
    cases hk:(h.code != 2) with
    | true =>
     refine .inr ⟨?_,fun v1 v2 lo W o1 o2 _=>uH c h v1 v2 lo W o1 o2 hc _ rfl hx0 hq4 hk⟩
     have hk2:¬ h.code=2:=by simpa using hk
     have hk1:h.code=1:=by have:=C8 hh tO;omega
     simp [bC,hok,hw,hp,hk1]
    | false =>
     refine .inl ⟨(c,aS 2 (cellAt c h.cell).e,true),?_,fun v1 v2 lo W o1 o2 _=>xw c h v1 v2 lo W o1 o2 hc0 hc1 hc _ rfl hx0 hq4 hk⟩
     have hk2:h.code=2:=by simpa using hk
     rw [pJ]
     simp [bC,hok,hw,hp,hk2]
   | false =>
    have QQ:¬ h.pos=24:=by simpa using hq4
    cases Ns:(h.pos == 25) with
    | true =>
     have hp:h.pos=25:=by simpa using Ns
     have hok:aX c h 23 25 0=true:=by simp [aX,hc,hh,hp,dL]
     refine .inl ⟨(bH c h.cell (vF h),aS 3 0,true),?_,fun v1 v2 lo W o1 o2 _=>xx c h v1 v2 lo W o1 o2 hc0 hc1 hc _ rfl hx0 Ns⟩
     rw [pJ]
     simp [bC,hok,hw,hp]
    | false =>
     have QR:¬ h.pos=25:=by simpa using Ns
     refine .inr ⟨?_,fun v1 v2 lo W o1 o2 _=>zU c h v1 v2 lo W o1 o2 hc _ rfl hx0 hq hq4 Ns⟩
     have hno:aX c h 23 25 0=false:=by
      have:dL h.pos 23 25=false:=by simp [dL];omega
      simp [aX,this]
     simp [bC,hno]
end
end Go.Proofs.YtffhjmepfojhnaaGreat
