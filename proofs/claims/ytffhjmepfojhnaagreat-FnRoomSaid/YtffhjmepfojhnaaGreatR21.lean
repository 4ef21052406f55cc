/-
  The program's touch of receiving, every case, and its step, on hands and channels that are kept whole; lists lie in memory.
-/
import Derived.Test.YtffhjmepfojhnaaGreatR04
import Derived.Test.YtffhjmepfojhnaaGreatR16
import Derived.Test.YtffhjmepfojhnaaGreatR20
import Derived.Laws.EntriesVeiled
import Derived.Deep.RegionHeld3
import Derived.BigRegion
import Derived.Deep.DeepCutAuto
set_option maxRecDepth 100000
set_option maxHeartbeats 2000000
set_option linter.unusedSimpArgs false
set_option linter.unusedVariables false
namespace Go.Proofs.YtffhjmepfojhnaaGreat
section
open Go.RowKit
attribute [local simp] aC
attribute [local go_sem ↓] aB aU aL bB aM bC aG aN au aF
def BB (c:Ch) (h:Ha):St:=if c.got=40 then (c,aP 4 0,true) else ({ c with got:=c.got+1 },{ h with cell:=c.got,pos:=10 },true)
theorem uF (c:Ch) (h:Ha) (v1 v2:Value) (lo:Nat) (w:World) (h1:ag w lo v1 c.cells) (h2:ai w lo v2 c.words) (CY:0≤c.got∧c.got≤40) :
  cu 261 c h v1 v2 lo w (BB c h):=by
 unfold BB
 split
 ·exact yB c h v1 v2 lo w h1 h2 ‹_›
 ·exact yC c h v1 v2 lo w h1 h2 ‹_› CY
def jA (c:Ch) (h:Ha):St:=if (cellAt c h.cell).s == 6 then (c,h,false) else if (gP c h).2 then (c,(gP c h).1,true) else nothing
theorem yH (c:Ch) (h:Ha) (v1 v2:Value) (lo:Nat) (w:World) (h1:ag w lo v1 c.cells) (h2:ai w lo v2 c.words) (hc0:0≤h.cell) (hc1:h.cell<c.cells.length) (hk:dO h.code h.elem=true) :
  cu 262 c h v1 v2 lo w (jA c h):=by
 by_cases n0:(cellAt c h.cell).s=0
 ·rw [show jA c h=(c,{ dK h (cellAt c h.cell) with pos:=11 },true) by simp [jA,gP,n0]]
  exact D6 c h v1 v2 lo w h1 h2 hc0 hc1 n0
 by_cases n1:(cellAt c h.cell).s=1
 ·rw [show jA c h=(c,{ dK h (cellAt c h.cell) with pos:=11 },true) by simp [jA,gP,n1]]
  exact D7 c h v1 v2 lo w h1 h2 hc0 hc1 n1
 by_cases n2:(cellAt c h.cell).s=2
 ·rw [show jA c h=(c,{ dK h (cellAt c h.cell) with pos:=12 },true) by simp [jA,gP,n2]]
  exact D8 c h v1 v2 lo w h1 h2 hc0 hc1 n2
 by_cases n3:(cellAt c h.cell).s=3
 ·rw [show jA c h=(c,{ dK h (cellAt c h.cell) with pos:=12 },true) by simp [jA,gP,n3]]
  exact D9 c h v1 v2 lo w h1 h2 hc0 hc1 n3
 by_cases n9:(cellAt c h.cell).s=9
 ·rw [show jA c h=(c,anew h,true) by simp [jA,gP,n9];rfl]
  exact DC c h v1 v2 lo w h1 h2 hc0 hc1 n9 hk
 by_cases n6:(cellAt c h.cell).s=6
 ·rw [show jA c h=(c,h,false) by simp [jA,n6]]
  exact DD c h v1 v2 lo w h1 h2 hc0 hc1 n6
 ·rw [show jA c h=nothing by simp [jA,gP,n0,n1,n2,n3,n9,n6]]
  exact Bl c h v1 v2 lo w h1 h2 hc0 hc1 (by simpa using n0) (by simpa using n1) (by simpa using n2) (by simpa using n3) (by simpa using n9) (by simpa using n6)
def jB (c:Ch) (h:Ha):St :=
 if h.seen == 2 then sH c 7 0 (dR h 0) { h with pos:=10 } else if h.seen == 3 then sH c 5 (cellAt c h.cell).t { h with pos:=13 } { h with pos:=10 }
 else if h.seen != 0 && h.seen != 1 then nothing else if h.cell<h.come then sH c 8 0 (dR h 2) { h with pos:=10 } else xH c 4 (dR h 1) { h with pos:=10 }
theorem yI (c:Ch) (h:Ha) (v1 v2:Value) (lo:Nat) (w:World) (h1:ag w lo v1 c.cells) (h2:ai w lo v2 c.words) (hc0:0≤h.cell) (hc1:h.cell<c.cells.length) (hc:aK c=true) (hlo:lo≤w.heap.size) :
  cu 263 c h v1 v2 lo w (jB c h):=by
 cases e0:(h.seen == 0) with
 | true =>
  have q:h.seen=0:=by simpa using e0
  by_cases hx:h.come≤h.cell
  ·rw [show jB c h=xH c 4 (dR h 1) { h with pos:=10 } by simp [jB,q,show ¬ h.cell<h.come by omega]]
   exact Bt c h v1 v2 lo w h1 h2 hc0 hc1 hc hlo e0 hx
  ·rw [show jB c h=sH c 8 0 (dR h 2) { h with pos:=10 } by simp [jB,q,show h.cell<h.come by omega]]
   exact Bu c h v1 v2 lo w h1 h2 hc0 hc1 e0 hx
 | false =>
  cases e1:(h.seen == 1) with
  | true =>
   have q:h.seen=1:=by simpa using e1
   by_cases hx:h.come≤h.cell
   ·rw [show jB c h=xH c 4 (dR h 1) { h with pos:=10 } by simp [jB,q,show ¬ h.cell<h.come by omega]]
    exact Bv c h v1 v2 lo w h1 h2 hc0 hc1 hc hlo e0 e1 hx
   ·rw [show jB c h=sH c 8 0 (dR h 2) { h with pos:=10 } by simp [jB,q,show h.cell<h.come by omega]]
    exact Bz c h v1 v2 lo w h1 h2 hc0 hc1 e0 e1 hx
  | false =>
   cases e2:(h.seen == 2) with
   | true =>
    rw [show jB c h=sH c 7 0 (dR h 0) { h with pos:=10 } by simp only [jB,e2];rfl]
    exact DW c h v1 v2 lo w h1 h2 hc0 hc1 e0 e1 e2
   | false =>
    cases e3:(h.seen == 3) with
    | true =>
     rw [show jB c h=sH c 5 (cellAt c h.cell).t { h with pos:=13 } { h with pos:=10 } by simp only [jB,e2,e3];rfl]
     exact DX c h v1 v2 lo w h1 h2 hc0 hc1 e0 e1 e2 e3
    | false =>
     rw [show jB c h=nothing by simp only [jB,e2,e3,bne,e0,e1];rfl]
     exact BA c h v1 v2 lo w h1 h2 e0 e1 e2 e3
theorem yJ (c:Ch) (h:Ha) (v1 v2:Value) (lo:Nat) (w:World) (h1:ag w lo v1 c.cells) (h2:ai w lo v2 c.words) (hk:(h.code != 2)=true) :
  cu 260 c h v1 v2 lo w (nothing):=by
 have T:=Lib.hid fun W=>fw W lo v1 v2
 generalize nothing=x at *
 obtain ⟨a1,q1,a2,q2,rfl,rfl,o1,o2,b1,b2,m1,m2,m10,m20,m11,m21,m12,m22,m13,m23⟩:=Cu h1 h2
 clear h1 h2
 go_enter Tryz.func260,Tryz.ntmps260
 go_wp2_with fail
 refine (T.out _).mono ?_
 rintro _ w3 ⟨⟨y1,y2,rfl,aV,aX,dL,dI⟩,aO⟩
 have hO3:ik (Value.slice a1 c.cells.length q1).ownBlock (Value.slice a2 c.words.length q2).ownBlock w w3:=fu (dx zB) (dx aO)
 have df:=aO.size;(try simp at df);have zz:=zT aO (b:=w.heap.size);(try simp [go_sem] at zz);replace bX:=dF zz;clear zz aO
 obtain ⟨⟨aI,aJ⟩,dP,dQ⟩:=sO (w:=w) (w.heap.size+1+1+1+1) dL dI b1 b2;obtain ⟨ya,yp,rfl,_⟩:=aV.seg;obtain ⟨yb,yq,rfl,_⟩:=aX.seg
 go_wp2
 refine rE Tryz.results260 rfl (az x.1 (.slice ya x.1.cells.length yp) (.slice yb x.1.words.length yq) tY) rfl (aj x.2.1 tY) ⟨⟨_,_,rfl,?_,?_,dP,dQ⟩,by exact zN⟩
 ·exact zP aV aV aI
 ·exact zP aX aX aJ
theorem vP (c:Ch) (h:Ha) (v1 v2:Value) (lo:Nat) (w:World) (h1:ag w lo v1 c.cells) (h2:ai w lo v2 c.words) (hk:(h.code != 2)=false) (n9:(h.pos == 9)=false) (n10:(h.pos == 10)=false) (n11:(h.pos == 11)=false) (n12:(h.pos == 12)=false) (n13:(h.pos == 13)=false) (n14:(h.pos == 14)=false) (n15:(h.pos == 15)=false) :
  cu 260 c h v1 v2 lo w (nothing):=by
 have T:=Lib.hid fun W=>fw W lo v1 v2
 generalize nothing=x at *
 obtain ⟨a1,q1,a2,q2,rfl,rfl,o1,o2,b1,b2,m1,m2,m10,m20,m11,m21,m12,m22,m13,m23⟩:=Cu h1 h2
 clear h1 h2
 go_enter Tryz.func260,Tryz.ntmps260
 go_wp2_with fail
 refine (T.out _).mono ?_
 rintro _ w3 ⟨⟨y1,y2,rfl,aV,aX,dL,dI⟩,aO⟩
 have hO3:ik (Value.slice a1 c.cells.length q1).ownBlock (Value.slice a2 c.words.length q2).ownBlock w w3:=fu (dx zB) (dx aO)
 have df:=aO.size;(try simp at df);have zz:=zT aO (b:=w.heap.size);(try simp [go_sem] at zz);replace bX:=dF zz;clear zz aO
 obtain ⟨⟨aI,aJ⟩,dP,dQ⟩:=sO (w:=w) (w.heap.size+1+1+1+1) dL dI b1 b2;obtain ⟨ya,yp,rfl,_⟩:=aV.seg;obtain ⟨yb,yq,rfl,_⟩:=aX.seg
 go_wp2
 refine rE Tryz.results260 rfl (az x.1 (.slice ya x.1.cells.length yp) (.slice yb x.1.words.length yq) tY) rfl (aj x.2.1 tY) ⟨⟨_,_,rfl,?_,?_,dP,dQ⟩,by exact zN⟩
 ·exact zP aV aV aI
 ·exact zP aX aX aJ
theorem BC (c:Ch) (h:Ha) (v1 v2:Value) (lo:Nat) (w:World) (h1:ag w lo v1 c.cells) (h2:ai w lo v2 c.words) (CY:0≤c.got∧c.got≤40) (hk:(h.code != 2)=false) (hq:(h.pos == 9)=true) :
  cu 260 c h v1 v2 lo w (BB c h):=by
 have T:=Lib.hid fun W a b=>uF c h v1 v2 lo W a b CY
 change Hid (∀ W,_→_→Calls _ _ _ _ (fun r w'=>cz W w' lo v1 v2 (BB c h) r)) at T
 clear CY
 generalize BB c h=x at *
 obtain ⟨a1,q1,a2,q2,rfl,rfl,o1,o2,b1,b2,m1,m2,m10,m20,m11,m21,m12,m22,m13,m23⟩:=Cu h1 h2
 clear h1 h2
 go_enter Tryz.func260,Tryz.ntmps260
 go_wp2_with fail
 refine (T.out _ (zO o1 o1) (zO o2 o2)).mono ?_
 rintro _ w3 ⟨⟨y1,y2,rfl,aV,aX,dL,dI⟩,hO⟩
 have hO3:ik (Value.slice a1 c.cells.length q1).ownBlock (Value.slice a2 c.words.length q2).ownBlock w w3:=fu (dx zB) hO
 have df:=hO.2.2.2.1;(try (simp at df));have zz:=vE hO (b:=w.heap.size);(try simp [go_sem] at zz);replace bX:=dF zz;clear zz
 clear hO
 obtain ⟨⟨aI,aJ⟩,dP,dQ⟩:=sO (w:=w) (w.heap.size+1+1+1+1) dL dI b1 b2;obtain ⟨ya,yp,rfl,_⟩:=aV.seg;obtain ⟨yb,yq,rfl,_⟩:=aX.seg
 go_wp2
 refine rE Tryz.results260 rfl (az x.1 (.slice ya x.1.cells.length yp) (.slice yb x.1.words.length yq) tY) rfl (aj x.2.1 tY) ⟨⟨_,_,rfl,?_,?_,dP,dQ⟩,by exact zN⟩
 ·exact zP aV aV aI
 ·exact zP aX aX aJ
theorem yK (c:Ch) (h:Ha) (v1 v2:Value) (lo:Nat) (w:World) (h1:ag w lo v1 c.cells) (h2:ai w lo v2 c.words) (hc0:0≤h.cell) (hc1:h.cell<c.cells.length) (hcall:dO h.code h.elem=true) (hk:(h.code != 2)=false) (hq:(h.pos == 10)=true) :
  cu 260 c h v1 v2 lo w (jA c h):=by
 have T:=Lib.hid fun W a b=>yH c h v1 v2 lo W a b hc0 hc1 hcall
 change Hid (∀ W,_→_→Calls _ _ _ _ (fun r w'=>cz W w' lo v1 v2 (jA c h) r)) at T
 clear hc0 hc1 hcall
 have n9:(h.pos == 9)=false:=by simp at hq ⊢;omega
 generalize jA c h=x at *
 obtain ⟨a1,q1,a2,q2,rfl,rfl,o1,o2,b1,b2,m1,m2,m10,m20,m11,m21,m12,m22,m13,m23⟩:=Cu h1 h2
 clear h1 h2
 go_enter Tryz.func260,Tryz.ntmps260
 go_wp2_with fail
 refine (T.out _ (zO o1 o1) (zO o2 o2)).mono ?_
 rintro _ w3 ⟨⟨y1,y2,rfl,aV,aX,dL,dI⟩,hO⟩
 have hO3:ik (Value.slice a1 c.cells.length q1).ownBlock (Value.slice a2 c.words.length q2).ownBlock w w3:=fu (dx zB) hO
 have df:=hO.2.2.2.1;(try (simp at df));have zz:=vE hO (b:=w.heap.size);(try simp [go_sem] at zz);replace bX:=dF zz;clear zz
 clear hO
 obtain ⟨⟨aI,aJ⟩,dP,dQ⟩:=sO (w:=w) (w.heap.size+1+1+1+1) dL dI b1 b2;obtain ⟨ya,yp,rfl,_⟩:=aV.seg;obtain ⟨yb,yq,rfl,_⟩:=aX.seg
 go_wp2
 refine rE Tryz.results260 rfl (az x.1 (.slice ya x.1.cells.length yp) (.slice yb x.1.words.length yq) tY) rfl (aj x.2.1 tY) ⟨⟨_,_,rfl,?_,?_,dP,dQ⟩,by exact zN⟩
 ·exact zP aV aV aI
 ·exact zP aX aX aJ
theorem yL (c:Ch) (h:Ha) (v1 v2:Value) (lo:Nat) (w:World) (h1:ag w lo v1 c.cells) (h2:ai w lo v2 c.words) (hk:(h.code != 2)=false) (hq:(h.pos == 11)=true) :
  cu 260 c h v1 v2 lo w ((c,{ h with come:=c.sent,pos:=12 },true)):=by
 have n9:(h.pos == 9)=false:=by simp at hq ⊢;omega
 have n10:(h.pos == 10)=false:=by simp at hq ⊢;omega
 obtain ⟨a1,q1,a2,q2,rfl,rfl,O1,O2,b1,b2⟩:=ql h1 h2
 clear h1 h2
 have o1:=O1.out
 have o2:=O2.out
 go_enter Tryz.func260,Tryz.ntmps260
 go_wp2_with fail
 go_region_held3 (fun w'=>hp w' w.heap.size=some (.cells (af c (.slice a1 c.cells.length q1) (.slice a2 c.words.length q2)) 31)∧hp w' (w.heap.size+1)=some (.cells (aa { h with come:=c.sent }) 49))
  (first|(simp [*,go_sem]))
  (first|((go_at_call 247;refine ax w zB fun bb=>?_;refine (cZ _ _ _).mono ?_;rintro _ w1 ⟨rfl,ah⟩;obtain ⟨aW,ay,zz⟩:=dZ bb ah (b:=w.heap.size);(try simp at ay);(try simp [go_sem] at zz);replace bX:=dF zz;clear zz;have dG:=aW;clear ah bb);have p1:=own_below o1 dG;have p2:=own_below o2 dG))
 go_wp2
 refine rE Tryz.results260 rfl (az c (.slice a1 c.cells.length q1) (.slice a2 c.words.length q2) tZ) rfl (aj { h with come:=c.sent,pos:=12 } tZ) ⟨⟨_,_,rfl,?_,?_,ak _ _,ak _ _⟩,dx zB⟩
 ·exact zO p1 o1
 ·exact zO p2 o2
theorem yM (c:Ch) (h:Ha) (v1 v2:Value) (lo:Nat) (w:World) (h1:ag w lo v1 c.cells) (h2:ai w lo v2 c.words) (hc0:0≤h.cell) (hc1:h.cell<c.cells.length) (hc:aK c=true) (hlo:lo≤w.heap.size) (hk:(h.code != 2)=false) (hq:(h.pos == 12)=true) :
  cu 260 c h v1 v2 lo w (jB c h):=by
 have T0:=fun W a b hl=>yI c h v1 v2 lo W a b hc0 hc1 hc hl
 generalize jB c h=x at *
 clear hc0 hc1 hc
 have n9:(h.pos == 9)=false:=by simp at hq ⊢;omega
 have n10:(h.pos == 10)=false:=by simp at hq ⊢;omega
 have n11:(h.pos == 11)=false:=by simp at hq ⊢;omega
 have b1:=jF h1
 have b2:=jF h2
 have m1:=mG b1
 have m2:=mG b2
 have m10:=m1 (w.heap.size) tO
 have m20:=m2 (w.heap.size) tO
 have m11:=m1 (w.heap.size+1) tO
 have m21:=m2 (w.heap.size+1) tO
 have m12:=m1 (w.heap.size+1+1) tO
 have m22:=m2 (w.heap.size+1+1) tO
 have m13:=m1 (w.heap.size+1+1+1) tO
 have m23:=m2 (w.heap.size+1+1+1) tO
 have o1:=h1
 have o2:=h2
 obtain ⟨a1,q1,e1,_⟩:=h1.seg
 obtain ⟨a2,q2,e2,_⟩:=h2.seg
 subst e1 e2
 have T:=Lib.hid T0
 clear h1 h2 T0
 go_enter Tryz.func260,Tryz.ntmps260
 go_wp2_with fail
 refine (T.out _ (zO o1 o1) (zO o2 o2) (by simp <;> omega)).mono ?_
 rintro _ w3 ⟨⟨y1,y2,rfl,aV,aX,dL,dI⟩,hO⟩
 have hO3:ik (Value.slice a1 c.cells.length q1).ownBlock (Value.slice a2 c.words.length q2).ownBlock w w3:=fu (dx zB) hO
 have df:=hO.2.2.2.1;(try (simp at df));have zz:=vE hO (b:=w.heap.size);(try simp [go_sem] at zz);replace bX:=dF zz;clear zz
 clear hO
 obtain ⟨⟨aI,aJ⟩,dP,dQ⟩:=sO (w:=w) (w.heap.size+1+1+1+1) dL dI b1 b2;obtain ⟨ya,yp,rfl,_⟩:=aV.seg;obtain ⟨yb,yq,rfl,_⟩:=aX.seg
 go_wp2
 refine rE Tryz.results260 rfl (az x.1 (.slice ya x.1.cells.length yp) (.slice yb x.1.words.length yq) tY) rfl (aj x.2.1 tY) ⟨⟨_,_,rfl,?_,?_,dP,dQ⟩,by exact zN⟩
 ·exact zP aV aV aI
 ·exact zP aX aX aJ
theorem yN (c:Ch) (h:Ha) (v1 v2:Value) (lo:Nat) (w:World) (h1:ag w lo v1 c.cells) (h2:ai w lo v2 c.words) (hc:aK c=true) (hlo:lo≤w.heap.size) (hk:(h.code != 2)=false) (hq:(h.pos == 13)=true) :
  cu 260 c h v1 v2 lo w (zU c { h with pos:=14 } { h with pos:=15 }):=by
 have T0:=fun W a b hl=>r9 c { h with pos:=14 } { h with pos:=15 } v1 v2 lo W a b hc hl
 change ∀ W,_→_→_→Calls _ _ _ _ (fun r w'=>StepB W w' lo v1 v2 (zU c { h with pos:=14 } { h with pos:=15 }) r) at T0
 clear hc
 have n9:(h.pos == 9)=false:=by simp at hq ⊢;omega
 have n10:(h.pos == 10)=false:=by simp at hq ⊢;omega
 have n11:(h.pos == 11)=false:=by simp at hq ⊢;omega
 have n12:(h.pos == 12)=false:=by simp at hq ⊢;omega
 generalize zU c { h with pos:=14 } { h with pos:=15 }=x at *
 obtain ⟨a1,q1,a2,q2,rfl,rfl,O1,O2,b1,b2⟩:=ql h1 h2
 clear h1 h2
 have T:=Lib.hid T0
 clear T0
 have o1:=O1.out
 have o2:=O2.out
 go_enter Tryz.func260,Tryz.ntmps260
 go_upto_region 14 with fail
 refine bI [[],[],[1],[],[3],[0,1,2,3,4],[0,1,2,3,4,5],[0,1,2,3,4,5],[0,1,2,3,4,5],[0,1,2,3,4,5,6],[0,1,2,3,4,5,7],[0,1,2,3,4,5,8]] [51,52,53,54,55,56,57,58,59,6] (fun l s wx=>(ik (Value.slice a1 c.cells.length q1).ownBlock (Value.slice a2 c.words.length q2).ownBlock w wx)∧(w.heap.size+1+1+1+1≤wx.heap.size)∧(hp wx w.heap.size=some (.cells (af c (.slice a1 c.cells.length q1) (.slice a2 c.words.length q2)) 31))∧(hp wx (w.heap.size+1)=some (.cells (aa h) 49))∧(hp wx (w.heap.size+1+1)=some (.cells (cond (l 9) (af x.1 (s 1003) (s 1004)) (af Ch.zero (.slice none 0 0) (.slice none 0 0))) 31))∧(hp wx (w.heap.size+1+1+1)=some (.cells (cond (l 10) (aa x.2.1) (aa Ha.zero)) 49))∧(l 5=false→ag wx lo (.slice a1 c.cells.length q1) c.cells)∧(l 5=false→ai wx lo (.slice a2 c.words.length q2) c.words)∧(l 0=true→s 51=.agg (af c (.slice a1 c.cells.length q1) (.slice a2 c.words.length q2)))∧(l 1=true→s 52=.agg (aa h))∧(l 2=true→s 53=.agg (aa ({ h with pos:=14 })))∧(l 3=true→s 54=.agg (aa h))∧(l 4=true→s 55=.agg (aa ({ h with pos:=15 })))∧(l 5=true→s 56=.tuple #[.agg (af x.1 (s 1003) (s 1004)),.agg (aa x.2.1),.bool x.2.2]∧ag wx lo (s 1003) x.1.cells∧ai wx lo (s 1004) x.1.words∧dW w (.slice a1 c.cells.length q1) (s 1003)∧dW w (.slice a2 c.words.length q2) (s 1004))∧(l 6=true→s 57=.agg (af x.1 (s 1003) (s 1004)))∧(l 7=true→s 58=.agg (aa x.2.1))∧(l 8=true→s 59=.bool x.2.2)∧(l 11=true→s 6=.bool x.2.2)) (by kernel_rfl) (by kernel_rfl) (by kernel_rfl) (fun s=>by (simp only [fill,fC,List.setIfInBounds_toArray,List.set_cons_zero,List.set_cons_succ];rfl)) (fun s=>⟨dx zB,by simp,by simp [go_sem, *],by simp [go_sem, *],by simp [go_sem, *],by simp [go_sem, *],fun _=>by exact zO o1 o1,fun _=>by exact zO o2 o2,nB,nB,nB,nB,nB,nB,nB,nB,nB,nB⟩) ?_ ?_
 refine ⟨?_,?_,?_,?_,?_,?_,?_,?_,?_,?_,?_,?_,trivial⟩;iterate 12 (intro l s wx hl hd hn hf K hK;rotate_left)
 ·intro l s wx hall hf
  have hO:=hf.1
  have z1:=hf.2.2.2.2.1
  have z2:=(jC hf).2.1
  rw [hall 9 rfl] at z1
  rw [hall 10 rfl] at z2
  dsimp only [cond] at z1 z2
  obtain ⟨_,X1,X2,F1,F2⟩:=((jC (jD hf)).2.1 (hall 5 rfl))
  have ec:=((jE hf).2 (hall 11 rfl))
  simp only [ec]
  clear ec hf hall
  go_wp2
  exact bodyPost_ret (iV Tryz.results260 rfl (az x.1 _ _ z1) rfl (aj x.2.1 z2)) rfl ⟨⟨_,_,rfl,X1,X2,F1,F2⟩,hO⟩
 ·have zc:=hf.out.2.2.1
  go_simp
  refine hK.out (upd s 51 (.agg (af c (.slice a1 c.cells.length q1) (.slice a2 c.words.length q2)))) _ _ (by simp [ae] <;> rfl) (kD (kX (fun _=>rfl) id) hf.out)
 ·have zh:=hf.out.2.2.2.1
  go_simp
  refine hK.out (upd s 52 (.agg (aa h))) _ _ (by simp [ae] <;> rfl) (kD (kA (kX (fun _=>rfl) id)) hf.out)
 ·have e1:=((jD hf.out).2.1 (hd 1 rfl))
  go_simp
  go_at_call 247
  refine (cZ h 14 _).mono ?_
  rintro _ wy ⟨rfl,hE⟩
  refine hK.out (upd s 53 (.agg (aa ({ h with pos:=14 })))) _ _ (by simp [ae,e1] <;> rfl) (kX (fu hf.out.1 (dx hE)) (kX (Nat.le_trans hf.out.2.1 (Below.size hE)) (kX (dS hf.out.2.2.1 hE) (kX (dS hf.out.2.2.2.1 hE) (kX (dS hf.out.2.2.2.2.1 hE) (kX (dS (jC hf.out).2.1 hE) (kX (fun h9=>own_below ((jC hf.out).2.2.1 h9) hE) (kX (fun h9=>own_below ((jC hf.out).2.2.2.1 h9) hE) (kB (kX (fun _=>rfl) (kB (kX (nU (hn 5 rfl)) (kX (nU (hn 6 rfl)) (kX (nU (hn 7 rfl)) (kX (nU (hn 8 rfl)) (fun _=>nU (hn 11 rfl)))))))))))))))) hf.out)
 ·have zh:=hf.out.2.2.2.1
  go_simp
  refine hK.out (upd s 54 (.agg (aa h))) _ _ (by simp [ae] <;> rfl) (kD (kB (kA (kX (fun _=>rfl) id))) hf.out)
 ·have e3:=((jD hf.out).2.2.2.1 (hd 3 rfl))
  go_simp
  go_at_call 247
  refine (cZ h 15 _).mono ?_
  rintro _ wy ⟨rfl,hE⟩
  refine hK.out (upd s 55 (.agg (aa ({ h with pos:=15 })))) _ _ (by simp [ae,e3] <;> rfl) (kX (fu hf.out.1 (dx hE)) (kX (Nat.le_trans hf.out.2.1 (Below.size hE)) (kX (dS hf.out.2.2.1 hE) (kX (dS hf.out.2.2.2.1 hE) (kX (dS hf.out.2.2.2.2.1 hE) (kX (dS (jC hf.out).2.1 hE) (kX (fun h9=>own_below ((jC hf.out).2.2.1 h9) hE) (kX (fun h9=>own_below ((jC hf.out).2.2.2.1 h9) hE) (kC (kX (fun _=>rfl) (kX (nU (hn 5 rfl)) (kX (nU (hn 6 rfl)) (kX (nU (hn 7 rfl)) (kX (nU (hn 8 rfl)) (fun _=>nU (hn 11 rfl))))))))))))))) hf.out)
 ·have e0:=((jD hf.out).1 (hd 0 rfl))
  have e2:=((jD hf.out).2.2.1 (hd 2 rfl))
  have e4:=((jC (jD hf.out)).1 (hd 4 rfl))
  go_simp
  go_at_call 253
  refine (T.out _ ((jC hf.out).2.2.1 hl) ((jC hf.out).2.2.2.1 hl) (Nat.le_trans hlo hf.out.1.2.2.2.1)).mono ?_
  rintro _ wy ⟨⟨y1,y2,rfl,X1,X2,F1,F2⟩,hE⟩
  have hO:=dx (a:=(Value.slice a1 c.cells.length q1).ownBlock) (b:=(Value.slice a2 c.words.length q2).ownBlock) hE
  refine hK.out (upd (upd (upd s 1003 (y1)) 1004 (y2)) 56 (.tuple #[.agg (af x.1 y1 y2),.agg (aa x.2.1),.bool x.2.2])) _ _ (by simp [ae,e0,e2,e4] <;> rfl) (kX (fu hf.out.1 hO) (kX (Nat.le_trans hf.out.2.1 hO.2.2.2.1) (kX (fA hf.out.2.2.1 hO ((jC hf.out).2.2.1 hl) ((jC hf.out).2.2.2.1 hl) (by decide) (by decide)) (kX (fA hf.out.2.2.2.1 hO ((jC hf.out).2.2.1 hl) ((jC hf.out).2.2.2.1 hl) (by decide) (by decide)) (kX (by (have ee:l 9=false:=hn 9 rfl);(have F:=hf.out.2.2.2.2.1);rw [ee] at F;rw [show upd l 5 true 9=false from ee];exact fA F hO ((jC hf.out).2.2.1 hl) ((jC hf.out).2.2.2.1 hl) (by decide) (by decide)) (kX (by (have ee:l 10=false:=hn 10 rfl);(have F:=(jC hf.out).2.1);rw [ee] at F;rw [show upd l 5 true 10=false from ee];exact fA F hO ((jC hf.out).2.2.1 hl) ((jC hf.out).2.2.2.1 hl) (by decide) (by decide)) (kX (fun h9=>nU h9 (show upd l 5 true 5=true from rfl)) (kX (fun h9=>nU h9 (show upd l 5 true 5=true from rfl)) (kC (kA (kX (fun _=>⟨rfl,X1,X2,fun j hj=>(F1 j hj).imp id (fun h=>Nat.le_trans hf.out.1.2.2.2.1 h),fun j hj=>(F2 j hj).imp id (fun h=>Nat.le_trans hf.out.1.2.2.2.1 h)⟩) (kX (nU (hn 6 rfl)) (kX (nU (hn 7 rfl)) (kX (nU (hn 8 rfl)) (fun _=>nU (hn 11 rfl))))))))))))))) hf.out)
 ·have e5:=((jC (jD hf.out)).2.1 (hd 5 rfl)).1
  go_simp
  refine hK.out (upd s 57 (.agg (af x.1 (s 1003) (s 1004)))) _ _ (by simp [ae,e5] <;> rfl) (kD (kC (kB (kX (fun _=>rfl) id))) hf.out)
 ·have e5:=((jC (jD hf.out)).2.1 (hd 5 rfl)).1
  go_simp
  refine hK.out (upd s 58 (.agg (aa x.2.1))) _ _ (by simp [ae,e5] <;> rfl) (kD (kC (kB (kA (kX (fun _=>rfl) id)))) hf.out)
 ·have e5:=((jC (jD hf.out)).2.1 (hd 5 rfl)).1
  go_simp
  refine hK.out (upd s 59 (.bool x.2.2)) _ _ (by simp [ae,e5] <;> rfl) (kE (kX (fun _=>rfl) id) hf.out)
 ·have e6:=((jC (jD hf.out)).2.2.1 (hd 6 rfl))
  have e5:=((jC (jD hf.out)).2.1 (hd 5 rfl))
  have X1:=e5.2.1
  have X2:=e5.2.2.1
  clear e5
  have zr:=hf.out.2.2.2.2.1
  rw [hl] at zr
  dsimp only [cond] at zr
  obtain ⟨xa,xp,ea,_⟩:=X1.seg
  obtain ⟨xb,xq,mq,_⟩:=X2.seg
  rw [ea,mq] at e6
  have zn:hp (bY wx (w.heap.size+1+1) (af x.1 (.slice xa x.1.cells.length xp) (.slice xb x.1.words.length xq))) (w.heap.size+1+1)=some (.cells (af x.1 (s 1003) (s 1004)) 31):=by rw [ea,mq];exact fH zr
  have hO:=hf.out.1
  go_simp
  refine hK.out (s) _ _ (by simp [ae,e6,ea,mq] <;> rfl) (kX (oX hO tO) (kX (Nat.le_trans hf.out.2.1 (Nat.le_of_eq aC.symm)) (kX ((aD tO).trans hf.out.2.2.1) (kX ((aD tO).trans hf.out.2.2.2.1) (kX (zn) (kX ((aD tO).trans (jC hf.out).2.1) (kX (fun h9=>nU h9 (show upd l 9 true 5=true from hd 5 rfl)) (kX (fun h9=>nU h9 (show upd l 9 true 5=true from hd 5 rfl)) (kC (kA (kX (fun h=>(let ⟨e,X1,X2,F1,F2⟩:=(jC (jD hf.out)).2.1 h;⟨e,cO X1 zr (by decide),cO X2 zr (by decide),F1,F2⟩)) id)))))))))) hf.out)
 ·have e7:=((jC (jD hf.out)).2.2.2.1 (hd 7 rfl))
  have e5:=((jC (jD hf.out)).2.1 (hd 5 rfl))
  have X1:=e5.2.1
  have X2:=e5.2.2.1
  clear e5
  have zr:=(jC hf.out).2.1
  rw [hl] at zr
  dsimp only [cond] at zr
  have zn:hp (bY wx (w.heap.size+1+1+1) (aa x.2.1)) (w.heap.size+1+1+1)=some (.cells (aa x.2.1) 49):=by exact fH zr
  have hO:=hf.out.1
  go_simp
  refine hK.out (s) _ _ (by simp [ae,e7] <;> rfl) (kX (oX hO tO) (kX (Nat.le_trans hf.out.2.1 (Nat.le_of_eq aC.symm)) (kX ((aD tO).trans hf.out.2.2.1) (kX ((aD tO).trans hf.out.2.2.2.1) (kX ((aD tO).trans hf.out.2.2.2.2.1) (kX (zn) (kX (fun h9=>nU h9 (show upd l 10 true 5=true from hd 5 rfl)) (kX (fun h9=>nU h9 (show upd l 10 true 5=true from hd 5 rfl)) (kC (kA (kX (fun h=>(let ⟨e,X1,X2,F1,F2⟩:=(jC (jD hf.out)).2.1 h;⟨e,cO X1 zr (by decide),cO X2 zr (by decide),F1,F2⟩)) id)))))))))) hf.out)
 ·have e8:=((jE hf.out).1 (hd 8 rfl))
  go_simp
  refine hK.out (upd s 6 (.bool x.2.2)) _ _ (by simp [ae,e8] <;> rfl) (kE (kA (fun _=>fun _=>rfl)) hf.out)
theorem yO (c:Ch) (h:Ha) (v1 v2:Value) (lo:Nat) (w:World) (h1:ag w lo v1 c.cells) (h2:ai w lo v2 c.words) (hc0:0≤h.cell) (hc1:h.cell<c.cells.length) (hk:(h.code != 2)=false) (hq:(h.pos == 14)=true) :
  cu 260 c h v1 v2 lo w ((bP c h.cell 7,dR h 0,true)):=by
 obtain ⟨i,hci⟩:∃ i:Nat,h.cell=(i:Int):=⟨h.cell.toNat,by omega⟩
 have hi:i<c.cells.length:=by omega
 have hi0:(0:Int)≤(i:Int):=by omega
 have hi1:(i:Int)<(c.cells.length:Int):=by omega
 have hne:=h1.ne h2
 obtain ⟨a2,q2,rfl,_⟩:=h2.seg
 obtain ⟨g,q1,rfl,hlo1,hlt,hcell,hfr⟩:=h1.open1 hi
 have O1:=Lib.hid h1
 have O2:=Lib.hid h2
 have jI:g<w.heap.size+1:=by omega
 have jJ:g<w.heap.size+1+1:=by omega
 have jK:g<w.heap.size+1+1+1:=by omega
 have vH:g≠w.heap.size:=by omega
 have vI:g≠w.heap.size+1:=by omega
 have vJ:g≠w.heap.size+1+1:=by omega
 have vK:g≠w.heap.size+1+1+1:=by omega
 have xC:w.heap.size≠g:=by omega
 have xD:w.heap.size+1≠g:=by omega
 have xE:w.heap.size+1+1≠g:=by omega
 have xG:w.heap.size+1+1+1≠g:=by omega
 have hx:Hid (cellAt c h.cell=c.cells.getD i ⟨0,0,0⟩):=by simp [cellAt,Hid,hci]
 have c0:=hcell 0 tO
 have c1:=hcell 1 tO
 have c2:=hcell 2 tO
 simp only [C3.val,Nat.add_zero] at c0 c1 c2
 rw [show bP c h.cell 7=bP c i 7 by rw [hci]]
 have e1:=iq c i 7
 have P1:=fun W (o:ag W lo (.slice (some ⟨g,0,none⟩) c.cells.length q1) c.cells)=>ag.setS o hi 7
 rw [← e1] at P1
 clear hx hcell h1 h2 e1
 generalize c.cells.getD i ⟨0,0,0⟩=x at *
 have o1:=O1.out
 have o2:=O2.out
 have n9:(h.pos == 9)=false:=by simp at hq ⊢;omega
 have n10:(h.pos == 10)=false:=by simp at hq ⊢;omega
 have n11:(h.pos == 11)=false:=by simp at hq ⊢;omega
 have n12:(h.pos == 12)=false:=by simp at hq ⊢;omega
 have n13:(h.pos == 13)=false:=by simp at hq ⊢;omega
 go_enter Tryz.func260,Tryz.ntmps260
 have P2:=aS (p:=⟨g,i*3,none⟩) o2 (hne g rfl) (.int .i64 7)
 go_wp2_with fail
 go_region_held3 (fun w'=>hp w' w.heap.size=some (.cells (af c (.slice (some ⟨g,0,none⟩) c.cells.length q1) (.slice a2 c.words.length q2)) 31)∧hp w' (w.heap.size+1)=some (.cells (aa h) 49))
  (first|(simp [*,go_sem]))
  (first|(go_at_call 264;refine (mf h 0 _).mono ?_;rintro _ w1 ⟨rfl,ah⟩;have jZ:Gr g w w1:=gT zG (pO ah);have ay:=ah.size;(try (simp at ay));have zz:=hQ ah (b:=w.heap.size);(first|(simp [go_sem,dw,dJ,hlt,jI,jJ,jK] at zz)|(simp [go_sem,hlt,jI,jJ,jK] at zz));(try clear dV eD);(try clear dw);have dw:=zz;clear zz;(try clear dJ);obtain ⟨dV,eD,dJ⟩:=bO dw;have zz:=hQ ah (b:=w.heap.size+1);(first|(simp [go_sem,bz,bZ,hlt,jI,jJ,jK] at zz)|(simp [go_sem,hlt,jI,jJ,jK] at zz));(try clear di dz);(try clear bz);have bz:=zz;clear zz;(try clear bZ);obtain ⟨di,dz,bZ⟩:=bO bz;have zz:=hQ ah (b:=w.heap.size+1+1);(first|(simp [go_sem,aH,bq,hlt,jI,jJ,jK] at zz)|(simp [go_sem,hlt,jI,jJ,jK] at zz));(try clear cB cK);(try clear aH);have aH:=zz;clear zz;(try clear bq);obtain ⟨cB,cK,bq⟩:=bO aH;have zz:=hQ ah (b:=w.heap.size+1+1+1);(first|(simp [go_sem,aA,aR,hlt,jI,jJ,jK] at zz)|(simp [go_sem,hlt,jI,jJ,jK] at zz));(try clear bK bL);(try clear aA);have aA:=zz;clear zz;(try clear aR);obtain ⟨bK,bL,aR⟩:=bO aA;have p1:ag w1 lo (.slice (some ⟨g,0,none⟩) c.cells.length q1) (bP c i 7).cells:=own_below (by exact zO (P1 _ o1) o1) ah;have p2:ai w1 lo (.slice a2 c.words.length q2) c.words:=own_below (zO P2 o2) ah))
 go_wp2
 refine rE Tryz.results260 rfl (az (bP c i 7) (.slice (some ⟨g,0,none⟩) c.cells.length q1) (.slice a2 c.words.length q2) tZ) rfl (aj (dR h 0) (by simp [go_sem, *] <;> first|rfl|simp [dR,hci])) ⟨⟨_,_,rfl,?_,?_,ak _ _,ak _ _⟩,lW (show w.grownBy _ (some g) from zG)⟩
 ·show ag _ lo (.slice (some ⟨g,0,none⟩) c.cells.length q1) (bP c i 7).cells
  exact zO p1 o1
 ·show ai _ lo (.slice a2 c.words.length q2) c.words
  exact zO p2 o2
theorem yP (c:Ch) (h:Ha) (v1 v2:Value) (lo:Nat) (w:World) (h1:ag w lo v1 c.cells) (h2:ai w lo v2 c.words) (hc0:0≤h.cell) (hc1:h.cell<c.cells.length) (hcall:dO h.code h.elem=true) (hk:(h.code != 2)=false) (hq:(h.pos == 15)=true) :
  cu 260 c h v1 v2 lo w ((bP c h.cell 9,anew h,true)):=by
 obtain ⟨i,hci⟩:∃ i:Nat,h.cell=(i:Int):=⟨h.cell.toNat,by omega⟩
 have hi:i<c.cells.length:=by omega
 have hi0:(0:Int)≤(i:Int):=by omega
 have hi1:(i:Int)<(c.cells.length:Int):=by omega
 have hne:=h1.ne h2
 obtain ⟨a2,q2,rfl,_⟩:=h2.seg
 obtain ⟨g,q1,rfl,hlo1,hlt,hcell,hfr⟩:=h1.open1 hi
 have O1:=Lib.hid h1
 have O2:=Lib.hid h2
 have jI:g<w.heap.size+1:=by omega
 have jJ:g<w.heap.size+1+1:=by omega
 have jK:g<w.heap.size+1+1+1:=by omega
 have vH:g≠w.heap.size:=by omega
 have vI:g≠w.heap.size+1:=by omega
 have vJ:g≠w.heap.size+1+1:=by omega
 have vK:g≠w.heap.size+1+1+1:=by omega
 have xC:w.heap.size≠g:=by omega
 have xD:w.heap.size+1≠g:=by omega
 have xE:w.heap.size+1+1≠g:=by omega
 have xG:w.heap.size+1+1+1≠g:=by omega
 have hx:Hid (cellAt c h.cell=c.cells.getD i ⟨0,0,0⟩):=by simp [cellAt,Hid,hci]
 have c0:=hcell 0 tO
 have c1:=hcell 1 tO
 have c2:=hcell 2 tO
 simp only [C3.val,Nat.add_zero] at c0 c1 c2
 rw [show bP c h.cell 9=bP c i 9 by rw [hci]]
 have e1:=iq c i 9
 have P1:=fun W (o:ag W lo (.slice (some ⟨g,0,none⟩) c.cells.length q1) c.cells)=>ag.setS o hi 9
 rw [← e1] at P1
 clear hx hcell h1 h2 e1
 generalize c.cells.getD i ⟨0,0,0⟩=x at *
 have o1:=O1.out
 have o2:=O2.out
 obtain ⟨y0,hy0⟩:∃ y0,anew h=y0:=⟨_,rfl⟩
 have AN:=Lib.hid fun W=>oq h hcall W
 rw [hy0] at AN
 rw [hy0]
 clear hy0 hcall
 have n9:(h.pos == 9)=false:=by simp at hq ⊢;omega
 have n10:(h.pos == 10)=false:=by simp at hq ⊢;omega
 have n11:(h.pos == 11)=false:=by simp at hq ⊢;omega
 have n12:(h.pos == 12)=false:=by simp at hq ⊢;omega
 have n13:(h.pos == 13)=false:=by simp at hq ⊢;omega
 have n14:(h.pos == 14)=false:=by simp at hq ⊢;omega
 go_enter Tryz.func260,Tryz.ntmps260
 have P2:=aS (p:=⟨g,i*3,none⟩) o2 (hne g rfl) (.int .i64 9)
 go_wp2_with fail
 go_region_held3 (fun w'=>hp w' w.heap.size=some (.cells (af c (.slice (some ⟨g,0,none⟩) c.cells.length q1) (.slice a2 c.words.length q2)) 31)∧hp w' (w.heap.size+1)=some (.cells (aa h) 49))
  (first|(simp [*,go_sem]))
  (first|(go_at_call 250;refine (AN.out _).mono ?_;rintro _ w1 ⟨rfl,ah⟩;have jZ:Gr g w w1:=gT zG (pO ah);have ay:=ah.size;(try (simp at ay));have zz:=hQ ah (b:=w.heap.size);(first|(simp [go_sem,dw,dJ,hlt,jI,jJ,jK] at zz)|(simp [go_sem,hlt,jI,jJ,jK] at zz));(try clear dV eD);(try clear dw);have dw:=zz;clear zz;(try clear dJ);obtain ⟨dV,eD,dJ⟩:=bO dw;have zz:=hQ ah (b:=w.heap.size+1);(first|(simp [go_sem,bz,bZ,hlt,jI,jJ,jK] at zz)|(simp [go_sem,hlt,jI,jJ,jK] at zz));(try clear di dz);(try clear bz);have bz:=zz;clear zz;(try clear bZ);obtain ⟨di,dz,bZ⟩:=bO bz;have zz:=hQ ah (b:=w.heap.size+1+1);(first|(simp [go_sem,aH,bq,hlt,jI,jJ,jK] at zz)|(simp [go_sem,hlt,jI,jJ,jK] at zz));(try clear cB cK);(try clear aH);have aH:=zz;clear zz;(try clear bq);obtain ⟨cB,cK,bq⟩:=bO aH;have zz:=hQ ah (b:=w.heap.size+1+1+1);(first|(simp [go_sem,aA,aR,hlt,jI,jJ,jK] at zz)|(simp [go_sem,hlt,jI,jJ,jK] at zz));(try clear bK bL);(try clear aA);have aA:=zz;clear zz;(try clear aR);obtain ⟨bK,bL,aR⟩:=bO aA;have p1:ag w1 lo (.slice (some ⟨g,0,none⟩) c.cells.length q1) (bP c i 9).cells:=own_below (by exact zO (P1 _ o1) o1) ah;have p2:ai w1 lo (.slice a2 c.words.length q2) c.words:=own_below (zO P2 o2) ah))
 go_wp2
 refine rE Tryz.results260 rfl (az (bP c i 9) (.slice (some ⟨g,0,none⟩) c.cells.length q1) (.slice a2 c.words.length q2) tZ) rfl (aj y0 (by simp [go_sem, *] <;> first|rfl|simp [dR,hci])) ⟨⟨_,_,rfl,?_,?_,ak _ _,ak _ _⟩,lW (show w.grownBy _ (some g) from zG)⟩
 ·show ag _ lo (.slice (some ⟨g,0,none⟩) c.cells.length q1) (bP c i 9).cells
  exact zO p1 o1
 ·show ai _ lo (.slice a2 c.words.length q2) c.words
  exact zO p2 o2
theorem iP {c:Ch} {h:Ha}:kP (c,h,true)=done c h:=rfl
theorem uG {c:Ch} {st wt:Int} {y z:Ha}:kP (sH c st wt y z)=if bn c y.cell y.seen st wt then done (aY c y.cell y.seen st wt) y else done (aY c y.cell y.seen st wt) z:=by
 unfold sH
 cases ht:bn c y.cell y.seen st wt with
 | true=>rfl
 | false=>rw [kM ht];rfl
theorem lu:kP nothing=nothing:=by simp [kP,nothing,aK,fq,Ch.zero]
theorem GN {c:Ch} {w word:Int} (h:fo c w word=false):dN c w word=c:=by simp [dN,h]
theorem Ki {c:Ch} {h:Ha}:kP (xH c 4 (dR h 1) { h with pos:=10 })=done (eT c h 4 16 10).1 (rJ (eT c h 4 16 10).2):=by
 unfold xH eT
 by_cases hf:80≤c.words.length
 ·simp only [hf,if_true];rfl
 ·simp only [hf,if_false]
  cases ht:bn c h.cell h.seen 4 (c.words.length+1) with
  | true =>
   rw [show bn c (dR h 1).cell (dR h 1).seen 4 (c.words.length+1)=true from ht]
   simp only [if_true]
   rfl
  | false =>
   rw [show bn c (dR h 1).cell (dR h 1).seen 4 (c.words.length+1)=false from ht]
   simp only [Bool.false_eq_true,if_false]
   rw [kM ht]
   rfl
theorem DY (c:Ch) (h:Ha):kP (jB c h)=om c h:=by
 unfold jB om fG
 by_cases h2:h.seen=2
 ·simp only [h2,beq_self_eq_true,if_true,show ((2:Int) == 3)=false from rfl,Bool.false_eq_true,if_false]
  rw [uG]
  simp only [iA,h2,dR]
 by_cases h3:h.seen=3
 ·have e2:(h.seen == 2)=false:=by simpa using h2
  have e3:(h.seen == 3)=true:=by simpa using h3
  simp only [e2,e3,if_true,Bool.false_eq_true,if_false]
  rw [uG]
  rfl
 ·have e2:(h.seen == 2)=false:=by simpa using h2
  have e3:(h.seen == 3)=false:=by simpa using h3
  simp only [e2,e3,Bool.false_eq_true,if_false]
  split
  ·exact lu
  ·split
   ·rw [uG];rfl
   ·exact Ki
theorem vQ (c:Ch) (h:Ha) (hc:aK c=true) (hh:bW h=true):∃ x:St,dM c h=kP x∧∀ (v1 v2:Value) (lo:Nat) (W:World),ag W lo v1 c.cells→ai W lo v2 c.words→lo≤W.heap.size→Calls Tryz.prog 260 #[.agg (af c v1 v2),.agg (aa h)] W fun r w'=>cz W w' lo v1 v2 x r:=by
 cases hk:(h.code != 2) with
 | true =>
  have hk2:¬ h.code=2:=by simpa using hk
  have hno:bf c h 9 15 2=false:=by simp [bf,hk2]
  exact ⟨nothing,by rw [lu];simp [dM,bg,hno],fun v1 v2 lo W o1 o2 _=>yJ c h v1 v2 lo W o1 o2 hk⟩
 | false =>
  have hk2:h.code=2:=by simpa using hk
  obtain ⟨hc0,RJ⟩:=fM hh
  have hc1:h.cell<c.cells.length:=by have:=(jh hc).1;omega
  by_cases hr:9≤h.pos∧h.pos≤15
  ·have hok:bf c h 9 15 2=true:=by
    have:dm h.pos 9 15=true:=by simp [dm];omega
    simp [bf,hc,hh,this,hk2]
   have hcall:dO h.code h.elem=true:=by
    have:=hh
    simp only [bW,qo,Bool.and_eq_true,kY] at this
    have h0:¬ h.pos=0:=by omega
    simp [h0] at this
    exact this.1.2
   have hps:h.pos=9∨h.pos=10∨h.pos=11∨h.pos=12∨h.pos=13∨h.pos=14∨h.pos=15:=by omega
   rcases hps with hp|hp|hp|hp|hp|hp|hp
   ·refine ⟨BB c h,?_,fun v1 v2 lo W o1 o2 _=>BC c h v1 v2 lo W o1 o2 (Bq hc) hk (by simpa using hp)⟩
    by_cases hg:c.got=40
    ·simp [dM,bg,hok,hp,wW,BB,hg,iP]
    ·simp [dM,bg,hok,hp,wW,BB,hg,iP]
   ·refine ⟨jA c h,?_,fun v1 v2 lo W o1 o2 _=>yK c h v1 v2 lo W o1 o2 hc0 hc1 hcall hk (by simpa using hp)⟩
    simp only [dM,bg,hok,hp,wX,jA]
    by_cases h6:(cellAt c h.cell).s=6
    ·simp [h6,kP,hc,hh]
    ·cases hv:(gP c h).2 with
     | true=>simp [h6,iP]
     | false=>simp [h6,lu]
   ·refine ⟨(c,{ h with come:=c.sent,pos:=12 },true),?_,fun v1 v2 lo W o1 o2 _=>yL c h v1 v2 lo W o1 o2 hk (by simpa using hp)⟩
    simp [dM,bg,hok,hp,iP]
   ·refine ⟨jB c h,?_,fun v1 v2 lo W o1 o2 hl=>yM c h v1 v2 lo W o1 o2 hc0 hc1 hc hl hk (by simpa using hp)⟩
    rw [DY]
    simp [dM,hok,hp]
   ·refine ⟨zU c { h with pos:=14 } { h with pos:=15 },?_,fun v1 v2 lo W o1 o2 hl=>yN c h v1 v2 lo W o1 o2 hc hl hk (by simpa using hp)⟩
    unfold zU
    cases ht:fo c h.wait 1 with
    | true=>simp [dM,bg,hok,hp,wY,ht,iP]
    | false=>simp [dM,bg,hok,hp,wY,ht,iP,GN ht]
   ·refine ⟨(bP c h.cell 7,dR h 0,true),?_,fun v1 v2 lo W o1 o2 _=>yO c h v1 v2 lo W o1 o2 hc0 hc1 hk (by simpa using hp)⟩
    simp [dM,bg,hok,hp,iP]
   ·refine ⟨(bP c h.cell 9,anew h,true),?_,fun v1 v2 lo W o1 o2 _=>yP c h v1 v2 lo W o1 o2 hc0 hc1 hcall hk (by simpa using hp)⟩
    simp [dM,bg,hok,hp,iP]
  ·have hno:bf c h 9 15 2=false:=by
    have:dm h.pos 9 15=false:=by simp [dm];omega
    simp [bf,this]
   have far:∀ k:Int,9≤k→k≤15→(h.pos == k)=false:=fun k h1 h2=>by simp;omega
   exact ⟨nothing,by rw [lu];simp [dM,bg,hno],fun v1 v2 lo W o1 o2 _=>vP c h v1 v2 lo W o1 o2 hk (far 9 tO tO) (far 10 tO tO) (far 11 tO tO) (far 12 tO tO) (far 13 tO tO) (far 14 tO tO) (far 15 tO tO)⟩
theorem pg (c:Ch) (h:Ha) (a b:Option Addr) (p q:Nat) (w:World) (h1:eY w w.heap.size a c.cells) (z1:a=none→p=0) (h2:eQ w w.heap.size b c.words) (z2:b=none→q=0) (l1:c.cells.length≤maxLen) (l2:c.words.length≤maxLen) :
  Calls Tryz.prog 259 #[.agg (af c (.slice a c.cells.length p) (.slice b c.words.length q)),.agg (aa h)] w fun r w'=>bV w w' (dM c h) r:=by
 have K:∀ (w:World),eY w w.heap.size a c.cells→(a=none→p=0)→eQ w w.heap.size b c.words→(b=none→q=0)→Calls Tryz.prog 236 #[.func (.func 260) #[] #[],.agg (af c (.slice a c.cells.length p) (.slice b c.words.length q)),.agg (aa h)] w fun r w'=>bV w w' (dM c h) r:=by
  intro w h1 z1 h2 z2
  cases hc:aK c with
  | false =>
   rw [show dM c h=nothing by simp [dM,bg,bf,hc]]
   exact mh _ c h a b p q w h1 z1 h2 z2 l1 l2 hc
  | true =>
   cases hh:bW h with
   | false =>
    rw [show dM c h=nothing by simp [dM,bg,bf,hh]]
    exact mi _ c h a b p q w h1 z1 h2 z2 l1 l2 hc hh
   | true =>
    obtain ⟨x,e,HT⟩:=vQ c h hc hh
    rw [e]
    exact mg _ x c h a b p q w h1 z1 h2 z2 hc hh (fun args w=>by simp [go_sem]) HT
 generalize dM c h=x at *
 have T:=Lib.hid K
 have H1:=Lib.hid h1
 have H2:=Lib.hid h2
 have Z1:=Lib.hid z1
 have Z2:=Lib.hid z2
 clear h1 h2 z1 z2 K
 have d1:∀ j,(Value.slice none 0 0).ownBlock=some j→w.heap.size+1+1+1+1≤j:=fun j hj=>by cases hj
 have d2:=d1
 go_enter Tryz.func259,Tryz.ntmps259
 go_wp2_with fail;refine ax w zB fun bb=>?_;refine (T.out _ (aT H1 bb) Z1.out (aT H2 bb) Z2.out).mono ?_;rintro _ w9 ⟨⟨y1,y2,rfl,aV,aX,dL,dI⟩,eG⟩;obtain ⟨sI,jc,zz⟩:=dZ bb eG (b:=w.heap.size);(try simp at jc);(try simp [go_sem] at zz);replace bX:=dF zz;clear zz eG bb
 replace aV:ag w9 w.heap.size y1 x.1.cells:=av aV (by simp;omega)
 replace aX:ai w9 w.heap.size y2 x.1.words:=av aX (by simp;omega)
 obtain ⟨⟨aI,aJ⟩,dP,dQ⟩:=lL (w:=w) (w.heap.size+1+1+1+1) dL dI d1 d2;obtain ⟨ya,yp,rfl,_⟩:=aV.seg;obtain ⟨yb,yq,rfl,_⟩:=aX.seg
 go_wp2
 refine rE Tryz.results259 rfl (az x.1 (.slice ya x.1.cells.length yp) (.slice yb x.1.words.length yq) tY) rfl (aj x.2.1 tY) ⟨⟨_,_,rfl,?_,?_,dP,dQ⟩,by exact zB⟩
 ·exact zP aV aV aI
 ·exact zP aX aX aJ
end
section
open Go.RowKit
attribute [local simp] aC
attribute [local go_sem ↓] aB aU aL bB aM bC aG aN au aF
theorem MN (h:Ha) (w:World) (n1:(h.nxt == 1)=true):Calls Tryz.prog 271 #[.agg (aa h)] w fun r w'=>r=.returned (.agg (aa { h with pos:=23 }))∧Below w.heap.size w w':=by
 go_enter Tryz.func271,Tryz.ntmps271
 go_wp2_with fail;refine ax w zB fun bb=>?_;refine (cZ _ _ _).mono ?_;rintro _ w1 ⟨rfl,ah⟩;obtain ⟨aW,ay,zz⟩:=CK bb ah (b:=w.heap.size);(try simp at ay);(try simp [go_sem] at zz);replace bX:=zS zz;clear zz ah bb
 go_wp2
 exact bodyPost_ret (ic Tryz.results271 rfl (aj { h with pos:=23 } tZ)) rfl ⟨rfl,by exact zB⟩
theorem MO (h:Ha) (w:World) (n1:(h.nxt == 1)=false) (n2:(h.nxt == 2)=true) (hk:dO h.code h.elem=true):Calls Tryz.prog 271 #[.agg (aa h)] w fun r w'=>r=.returned (.agg (aa (anew h)))∧Below w.heap.size w w':=by
 obtain ⟨y0,hy0⟩:∃ y0,anew h=y0:=⟨_,rfl⟩
 have AN:=Lib.hid fun W=>oq h hk W
 rw [hy0] at AN
 rw [hy0]
 clear hy0 hk
 go_enter Tryz.func271,Tryz.ntmps271
 go_wp2_with fail;refine ax w zB fun bb=>?_;refine (AN.out _).mono ?_;rintro _ w1 ⟨rfl,ah⟩;obtain ⟨aW,ay,zz⟩:=CK bb ah (b:=w.heap.size);(try simp at ay);(try simp [go_sem] at zz);replace bX:=zS zz;clear zz ah bb
 go_wp2
 exact bodyPost_ret (ic Tryz.results271 rfl (aj y0 tZ)) rfl ⟨rfl,by exact zB⟩
theorem MP (h:Ha) (w:World) (n1:(h.nxt == 1)=false) (n2:(h.nxt == 2)=false):Calls Tryz.prog 271 #[.agg (aa h)] w fun r w'=>r=.returned (.agg (aa (aP 2 h.out)))∧Below w.heap.size w w':=by
 go_enter Tryz.func271,Tryz.ntmps271
 go_wp2_with fail;refine ax w zB fun bb=>?_;refine (fT _ _ _).mono ?_;rintro _ w1 ⟨rfl,ah⟩;obtain ⟨aW,ay,zz⟩:=CK bb ah (b:=w.heap.size);(try simp at ay);(try simp [go_sem] at zz);replace bX:=zS zz;clear zz ah bb
 go_wp2
 exact bodyPost_ret (ic Tryz.results271 rfl (aj (aP 2 h.out) tZ)) rfl ⟨rfl,by exact zB⟩
theorem l8 (h:Ha) (w:World) (hk:dO h.code h.elem=true) (hn:0≤h.nxt∧h.nxt≤2):Calls Tryz.prog 271 #[.agg (aa h)] w fun r w'=>r=.returned (.agg (aa (dC h)))∧Below w.heap.size w w':=by
 by_cases h1:h.nxt=1
 ·rw [show dC h={ h with pos:=23 } by simp [dC,h1]]
  exact MN h w (by simpa using h1)
 by_cases h2:h.nxt=2
 ·rw [show dC h=anew h by simp [dC,h2]]
  exact MO h w (by simpa using h1) (by simpa using h2) hk
 ·have h0:h.nxt=0:=by omega
  rw [show dC h=aP 2 h.out by simp [dC,h0]]
  exact MP h w (by simpa using h1) (by simpa using h2)
theorem uH (c:Ch) (h:Ha) (v1 v2:Value) (lo:Nat) (w:World) (h1:ag w lo v1 c.cells) (h2:ai w lo v2 c.words) (CY:0≤c.fin∧c.fin≤40) :
  cu 269 c h v1 v2 lo w (({ c with fin:=c.fin+1 },{ h with grow:=c.fin,pos:=17 },true)):=by
 obtain ⟨a1,q1,a2,q2,rfl,rfl,O1,O2,b1,b2⟩:=ql h1 h2
 clear h1 h2
 have o1:=O1.out
 have o2:=O2.out
 go_enter Tryz.func269,Tryz.ntmps269
 go_wp2_with fail
 go_region_held3 (fun w'=>hp w' w.heap.size=some (.cells (af { c with fin:=c.fin+1 } (.slice a1 c.cells.length q1) (.slice a2 c.words.length q2)) 31)∧hp w' (w.heap.size+1)=some (.cells (aa { h with grow:=c.fin }) 49))
  (first|(simp [*,go_sem]))
  (first|((go_at_call 247;refine ax w zB fun bb=>?_;refine (cZ _ _ _).mono ?_;rintro _ w1 ⟨rfl,ah⟩;obtain ⟨aW,ay,zz⟩:=dZ bb ah (b:=w.heap.size);(try simp at ay);(try simp [go_sem] at zz);replace bX:=dF zz;clear zz;have dG:=aW;clear ah bb);have p1:=own_below o1 dG;have p2:=own_below o2 dG))
 go_wp2
 refine rE Tryz.results269 rfl (az { c with fin:=c.fin+1 } (.slice a1 c.cells.length q1) (.slice a2 c.words.length q2) tZ) rfl (aj { h with grow:=c.fin,pos:=17 } tZ) ⟨⟨_,_,rfl,?_,?_,ak _ _,ak _ _⟩,dx zB⟩
 ·exact zO p1 o1
 ·exact zO p2 o2
theorem BD (c:Ch) (h:Ha) (v1 v2:Value) (lo:Nat) (w:World) (h1:ag w lo v1 c.cells) (h2:ai w lo v2 c.words) (hs:(h.seen != 3)=true) :
  cu 270 c h v1 v2 lo w (nothing):=by
 have T:=Lib.hid fun W=>fw W lo v1 v2
 generalize nothing=x at *
 obtain ⟨a1,q1,a2,q2,rfl,rfl,o1,o2,b1,b2,m1,m2,m10,m20,m11,m21,m12,m22,m13,m23⟩:=Cu h1 h2
 clear h1 h2
 go_enter Tryz.func270,Tryz.ntmps270
 go_wp2_with fail
 refine (T.out _).mono ?_
 rintro _ w3 ⟨⟨y1,y2,rfl,aV,aX,dL,dI⟩,aO⟩
 have hO3:ik (Value.slice a1 c.cells.length q1).ownBlock (Value.slice a2 c.words.length q2).ownBlock w w3:=fu (dx zB) (dx aO)
 have df:=aO.size;(try simp at df);have zz:=zT aO (b:=w.heap.size);(try simp [go_sem] at zz);replace bX:=dF zz;clear zz aO
 obtain ⟨⟨aI,aJ⟩,dP,dQ⟩:=sO (w:=w) (w.heap.size+1+1+1+1) dL dI b1 b2;obtain ⟨ya,yp,rfl,_⟩:=aV.seg;obtain ⟨yb,yq,rfl,_⟩:=aX.seg
 go_wp2
 refine rE Tryz.results270 rfl (az x.1 (.slice ya x.1.cells.length yp) (.slice yb x.1.words.length yq) tY) rfl (aj x.2.1 tY) ⟨⟨_,_,rfl,?_,?_,dP,dQ⟩,by exact zN⟩
 ·exact zP aV aV aI
 ·exact zP aX aX aJ
def QL (c:Ch) (h:Ha) (f st wt:Int) (y z:Ha):St:=if bn c h.grow f st wt then (aY c h.grow f st wt,y,true) else (c,z,true)
theorem pq (c:Ch) (h:Ha) (v1 v2:Value) (lo:Nat) (w:World) (h1:ag w lo v1 c.cells) (h2:ai w lo v2 c.words) (hc0:0≤h.grow) (hc1:h.grow<c.cells.length) (hs:(h.seen != 3)=false) :
  (∀ (ht:bn c h.grow 3 6 (cellAt c h.grow).t=true),Calls Tryz.prog 270 #[.agg (af c v1 v2),.agg (aa h)] w fun r w'=>cz w w' lo v1 v2 ((aY c h.grow 3 6 (cellAt c h.grow).t,{ h with pos:=20 },true)) r) ∧
  (∀ (ht:bn c h.grow 3 6 (cellAt c h.grow).t=false),Calls Tryz.prog 270 #[.agg (af c v1 v2),.agg (aa h)] w fun r w'=>cz w w' lo v1 v2 ((aY c h.grow 3 6 (cellAt c h.grow).t,{ h with pos:=18 },true)) r):=by
 constructor
 case' left =>
  intro ht
  have mA:Hid (0=0):=rfl
 case' right =>
  intro ht
  have mB:Hid (0=0):=rfl
 all_goals
  obtain ⟨i,hci⟩:∃ i:Nat,h.grow=(i:Int):=⟨h.grow.toNat,by omega⟩
  have hi:i<c.cells.length:=by omega
  have hi0:(0:Int)≤(i:Int):=by omega
  have hi1:(i:Int)<(c.cells.length:Int):=by omega
  have hne:=h1.ne h2
  obtain ⟨a2,q2,rfl,_⟩:=h2.seg
  obtain ⟨g,q1,rfl,hlo1,hlt,hcell,hfr⟩:=h1.open1 hi
  have O1:=Lib.hid h1
  have O2:=Lib.hid h2
  have jI:g<w.heap.size+1:=by omega
  have jJ:g<w.heap.size+1+1:=by omega
  have jK:g<w.heap.size+1+1+1:=by omega
  have vH:g≠w.heap.size:=by omega
  have vI:g≠w.heap.size+1:=by omega
  have vJ:g≠w.heap.size+1+1:=by omega
  have vK:g≠w.heap.size+1+1+1:=by omega
  have xC:w.heap.size≠g:=by omega
  have xD:w.heap.size+1≠g:=by omega
  have xE:w.heap.size+1+1≠g:=by omega
  have xG:w.heap.size+1+1+1≠g:=by omega
  have hx:Hid (cellAt c h.grow=c.cells.getD i ⟨0,0,0⟩):=by simp [cellAt,Hid,hci]
  have c0:=hcell 0 tO
  have c1:=hcell 1 tO
  have c2:=hcell 2 tO
  simp only [C3.val,Nat.add_zero] at c0 c1 c2
  have ex:=hx.out
  rw [ex] at ht ⊢
  have T0:=fun W a b=>jO c i 3 6 (c.cells.getD i ⟨0,0,0⟩).t (.slice (some ⟨g,0,none⟩) c.cells.length q1) (.slice a2 c.words.length q2) lo W a b hi
  rw [hci] at ht
  rw [show aY c h.grow 3 6 (c.cells.getD i ⟨0,0,0⟩).t=aY c i 3 6 (c.cells.getD i ⟨0,0,0⟩).t by rw [hci]]
  rw [ht] at T0
  clear hx ex hcell h1 h2 ht
  generalize c.cells.getD i ⟨0,0,0⟩=x0 at *
  obtain ⟨ss,e,t⟩:=x0
  simp only at T0 c0 c1 c2 ⊢
  have TN:=Lib.hid T0
  clear T0
  have o1:=O1.out
  have o2:=O2.out
  have NI:=Lib.hid hci
  clear hci hc0 hc1
  go_enter Tryz.func270,Tryz.ntmps270
  have QH:some w.heap.size≠some g:=by simp;omega
  have QI:some (w.heap.size+1)≠some g:=by simp;omega
  have QJ:some (w.heap.size+1+1)≠some g:=by simp;omega
  have QK:some (w.heap.size+1+1+1)≠some g:=by simp;omega
  go_upto_region 3 with fail
  first
  | (replace mA:=mA;refine bI [[],[],[1],[],[3],[],[5],[3,4,5,6],[3,4,5,6,7],[3,4,5,6,7,8],qB [8,9],qB [8,9,10]] [14,15,16,17,18,19,20,21,22,23,24,25] (fun l s wx=>(l 10=false→Below w.heap.size w wx)∧(hp wx w.heap.size=some (.cells (af c (.slice (some ⟨g,0,none⟩) c.cells.length q1) (.slice a2 c.words.length q2)) 31))∧(hp wx (w.heap.size+1)=some (.cells (aa h) 49))∧(hp wx (w.heap.size+1+1)=some (.cells (af Ch.zero (.slice none 0 0) (.slice none 0 0)) 31))∧(hp wx (w.heap.size+1+1+1)=some (.cells (aa Ha.zero) 49))∧(l 0=true→s 14=.agg (af c (.slice (some ⟨g,0,none⟩) c.cells.length q1) (.slice a2 c.words.length q2)))∧(l 1=true→s 15=.pointer (some ⟨w.heap.size+1,8,none⟩))∧(l 2=true→s 16=.int .i64 i)∧(l 3=true→s 17=.pointer (some ⟨w.heap.size,4,none⟩))∧(l 4=true→s 18=.slice (some ⟨g,0,none⟩) c.cells.length q1)∧(l 5=true→s 19=.pointer (some ⟨w.heap.size+1,8,none⟩))∧(l 6=true→s 20=.int .i64 i)∧(l 7=true→s 21=.pointer (some ⟨g,i*3,none⟩))∧(l 8=true→s 22=.pointer (some ⟨g,i*3+2,none⟩))∧(l 9=true→s 23=.int .i64 t)∧(l 10=true→s 24=.bool true∧Gr g w wx∧ag wx lo (.slice (some ⟨g,0,none⟩) c.cells.length q1) (aY c i 3 6 t).cells∧ai wx lo (.slice a2 c.words.length q2) c.words)∧(l 11=true→s 25=.bool false)) (by kernel_rfl) (by kernel_rfl) (by kernel_rfl) (fun s=>by (simp only [fill,fC,List.setIfInBounds_toArray,List.set_cons_zero,List.set_cons_succ];rfl)) (fun s=>⟨fun _=>by exact zB,by simp [go_sem],by simp [go_sem],by simp [go_sem],by simp [go_sem],nB,nB,nB,nB,nB,nB,nB,nB,nB,nB,nB,nB⟩) ?_ ?_)
  | (replace mB:=mB;refine bI [[],[],[1],[],[3],[],[5],[3,4,5,6],[3,4,5,6,7],[3,4,5,6,7,8],qB [8,9],qB [8,9,10]] [14,15,16,17,18,19,20,21,22,23,24,25] (fun l s wx=>(l 10=false→Below w.heap.size w wx)∧(hp wx w.heap.size=some (.cells (af c (.slice (some ⟨g,0,none⟩) c.cells.length q1) (.slice a2 c.words.length q2)) 31))∧(hp wx (w.heap.size+1)=some (.cells (aa h) 49))∧(hp wx (w.heap.size+1+1)=some (.cells (af Ch.zero (.slice none 0 0) (.slice none 0 0)) 31))∧(hp wx (w.heap.size+1+1+1)=some (.cells (aa Ha.zero) 49))∧(l 0=true→s 14=.agg (af c (.slice (some ⟨g,0,none⟩) c.cells.length q1) (.slice a2 c.words.length q2)))∧(l 1=true→s 15=.pointer (some ⟨w.heap.size+1,8,none⟩))∧(l 2=true→s 16=.int .i64 i)∧(l 3=true→s 17=.pointer (some ⟨w.heap.size,4,none⟩))∧(l 4=true→s 18=.slice (some ⟨g,0,none⟩) c.cells.length q1)∧(l 5=true→s 19=.pointer (some ⟨w.heap.size+1,8,none⟩))∧(l 6=true→s 20=.int .i64 i)∧(l 7=true→s 21=.pointer (some ⟨g,i*3,none⟩))∧(l 8=true→s 22=.pointer (some ⟨g,i*3+2,none⟩))∧(l 9=true→s 23=.int .i64 t)∧(l 10=true→s 24=.bool false∧Gr g w wx∧ag wx lo (.slice (some ⟨g,0,none⟩) c.cells.length q1) (aY c i 3 6 t).cells∧ai wx lo (.slice a2 c.words.length q2) c.words)∧(l 11=true→s 25=.bool true)) (by kernel_rfl) (by kernel_rfl) (by kernel_rfl) (fun s=>by (simp only [fill,fC,List.setIfInBounds_toArray,List.set_cons_zero,List.set_cons_succ];rfl)) (fun s=>⟨fun _=>by exact zB,by simp [go_sem],by simp [go_sem],by simp [go_sem],by simp [go_sem],nB,nB,nB,nB,nB,nB,nB,nB,nB,nB,nB,nB⟩) ?_ ?_)
  refine ⟨?_,?_,?_,?_,?_,?_,?_,?_,?_,?_,?_,?_,trivial⟩;iterate 12 (intro l s wx hl hd hn hf K hK;rotate_left)
  ·intro l s w5 hall hf
   obtain ⟨_,TE,r1,r2⟩:=((jC (jD hf)).2.2.2.1 (hall 10 rfl))
   have dw:=hf.2.1
   have bz:=hf.2.2.1
   have aH:=hf.2.2.2.1
   have aA:=hf.2.2.2.2.1
   have ec:=((jE hf) (hall 11 rfl))
   simp only [ec]
   clear hf hall ec
   obtain ⟨dV,eD,dJ⟩:=bO dw
   obtain ⟨di,dz,bZ⟩:=bO bz
   obtain ⟨cB,cK,bq⟩:=bO aH
   obtain ⟨bK,bL,aR⟩:=bO aA
   go_wp2_with fail
   go_region_held3 (fun w'=>hp w' w.heap.size=some (.cells (af c (.slice (some ⟨g,0,none⟩) c.cells.length q1) (.slice a2 c.words.length q2)) 31)∧hp w' (w.heap.size+1)=some (.cells (aa h) 49))
    (first|(simp [*,go_sem]))
    (first|(go_at_call 247;refine (cZ _ _ _).mono ?_;rintro _ w6 ⟨rfl,il⟩;have PG:Gr g w w6:=gT zG (pO il);have xW:=il.size;(try (simp at xW));have zz:=hQ il (b:=w.heap.size);(first|(simp [go_sem,dw,dJ] at zz)|(simp [go_sem] at zz));(try clear dV eD);(try clear dw);have dw:=zz;clear zz;(try clear dJ);obtain ⟨dV,eD,dJ⟩:=bO dw;have zz:=hQ il (b:=w.heap.size+1);(first|(simp [go_sem,bz,bZ] at zz)|(simp [go_sem] at zz));(try clear di dz);(try clear bz);have bz:=zz;clear zz;(try clear bZ);obtain ⟨di,dz,bZ⟩:=bO bz;have zz:=hQ il (b:=w.heap.size+1+1);(first|(simp [go_sem,aH,bq] at zz)|(simp [go_sem] at zz));(try clear cB cK);(try clear aH);have aH:=zz;clear zz;(try clear bq);obtain ⟨cB,cK,bq⟩:=bO aH;have zz:=hQ il (b:=w.heap.size+1+1+1);(first|(simp [go_sem,aA,aR] at zz)|(simp [go_sem] at zz));(try clear bK bL);(try clear aA);have aA:=zz;clear zz;(try clear aR);obtain ⟨bK,bL,aR⟩:=bO aA;have p1:ag w6 lo (.slice (some ⟨g,0,none⟩) c.cells.length q1) (aY c i 3 6 t).cells:=own_below (zO r1 o1) il;have p2:ai w6 lo (.slice a2 c.words.length q2) c.words:=own_below (zO r2 o2) il))
   go_wp2
   first
   | (replace mA:=mA;refine rE Tryz.results270 rfl (az (aY c i 3 6 t) (.slice (some ⟨g,0,none⟩) c.cells.length q1) (.slice a2 c.words.length q2) tZ) rfl (aj { h with pos:=20 } tZ) ⟨⟨_,_,rfl,?_,?_,ak _ _,ak _ _⟩,lW (show w.grownBy _ (some g) from zG)⟩)
   | (replace mB:=mB;refine rE Tryz.results270 rfl (az (aY c i 3 6 t) (.slice (some ⟨g,0,none⟩) c.cells.length q1) (.slice a2 c.words.length q2) tZ) rfl (aj { h with pos:=18 } tZ) ⟨⟨_,_,rfl,?_,?_,ak _ _,ak _ _⟩,lW (show w.grownBy _ (some g) from zG)⟩)
   ·show ag _ lo (.slice (some ⟨g,0,none⟩) c.cells.length q1) (aY c i 3 6 t).cells
    exact zO p1 o1
   ·show ai _ lo (.slice a2 c.words.length q2) c.words
    exact zO p2 o2
  ·have hB:=hf.out.1 (hn 10 rfl)
   have zc:=hf.out.2.1
   go_simp
   refine hK.out (upd s 14 (.agg (af c (.slice (some ⟨g,0,none⟩) c.cells.length q1) (.slice a2 c.words.length q2)))) _ _ (by simp [ae] <;> rfl) (kC (kA (kX (fun _=>rfl) id)) hf.out)
  ·have hB:=hf.out.1 (hn 10 rfl)
   go_simp
   refine hK.out (upd s 15 (.pointer (some ⟨w.heap.size+1,8,none⟩))) _ _ (by simp [ae] <;> rfl) (kC (kB (kX (fun _=>rfl) id)) hf.out)
  ·have e1:=((jC hf.out).2.2.1 (hd 1 rfl))
   have hB:=hf.out.1 (hn 10 rfl)
   have zh:=hf.out.2.2.1
   have q:wx.cell? ⟨w.heap.size+1,8,none⟩=some (.int .i64 i):=by rw [← NI.out];exact (bO zh).1 8
   go_simp
   refine hK.out (upd s 16 (.int .i64 i)) _ _ (by simp [ae,e1] <;> rfl) (kC (kB (kA (kX (fun _=>rfl) id))) hf.out)
  ·have hB:=hf.out.1 (hn 10 rfl)
   go_simp
   refine hK.out (upd s 17 (.pointer (some ⟨w.heap.size,4,none⟩))) _ _ (by simp [ae] <;> rfl) (kD (kX (fun _=>rfl) id) hf.out)
  ·have e3:=((jD hf.out).1 (hd 3 rfl))
   have hB:=hf.out.1 (hn 10 rfl)
   have zc:=hf.out.2.1
   have q:=(bO zc).1 4
   go_simp
   refine hK.out (upd s 18 (.slice (some ⟨g,0,none⟩) c.cells.length q1)) _ _ (by simp [ae,e3] <;> rfl) (kD (kA (kX (fun _=>rfl) id)) hf.out)
  ·have hB:=hf.out.1 (hn 10 rfl)
   go_simp
   refine hK.out (upd s 19 (.pointer (some ⟨w.heap.size+1,8,none⟩))) _ _ (by simp [ae] <;> rfl) (kD (kB (kX (fun _=>rfl) id)) hf.out)
  ·have e5:=((jD hf.out).2.2.1 (hd 5 rfl))
   have hB:=hf.out.1 (hn 10 rfl)
   have zh:=hf.out.2.2.1
   have q:wx.cell? ⟨w.heap.size+1,8,none⟩=some (.int .i64 i):=by rw [← NI.out];exact (bO zh).1 8
   go_simp
   refine hK.out (upd s 20 (.int .i64 i)) _ _ (by simp [ae,e5] <;> rfl) (kD (kB (kA (kX (fun _=>rfl) id))) hf.out)
  ·have e4:=((jD hf.out).2.1 (hd 4 rfl))
   have e6:=((jD hf.out).2.2.2.1 (hd 6 rfl))
   have hB:=hf.out.1 (hn 10 rfl)
   go_simp
   refine hK.out (upd s 21 (.pointer (some ⟨g,i*3,none⟩))) _ _ (by simp [ae,e4,e6] <;> rfl) (kD (kC (kX (fun _=>rfl) id)) hf.out)
  ·have e7:=((jC (jD hf.out)).1 (hd 7 rfl))
   have hB:=hf.out.1 (hn 10 rfl)
   go_simp
   refine hK.out (upd s 22 (.pointer (some ⟨g,i*3+2,none⟩))) _ _ (by simp [ae,e7] <;> rfl) (kD (kC (kA (kX (fun _=>rfl) id))) hf.out)
  ·have e8:=((jC (jD hf.out)).2.1 (hd 8 rfl))
   have hB:=hf.out.1 (hn 10 rfl)
   have y0:=(hB.cell (p:=⟨g,i*3+2,none⟩) hlt).trans c2
   go_simp
   refine hK.out (upd s 23 (.int .i64 t)) _ _ (by simp [ae,e8] <;> rfl) (kD (kC (kB (kX (fun _=>rfl) id))) hf.out)
  ·have e0:=((jC hf.out).2.1 (hd 0 rfl))
   have e2:=((jC hf.out).2.2.2.1 (hd 2 rfl))
   have e9:=((jC (jD hf.out)).2.2.1 (hd 9 rfl))
   have hB:=hf.out.1 hl
   go_simp
   go_at_call 254
   refine (TN.out _ (own_below o1 hB) (own_below o2 hB)).mono ?_
   rintro _ wy ⟨rfl,p1,p2,hgw⟩
   first
   | (replace mA:=mA;refine hK.out (upd s 24 (.bool true)) _ _ (by simp [ae,e0,e2,e9] <;> rfl) (kX (fun h9=>nU h9 (show upd l 10 true 10=true from rfl)) (kX ((dB hgw (bO hf.out.2.1).2.2 QH).trans hf.out.2.1) (kX ((dB hgw (bO hf.out.2.2.1).2.2 QI).trans hf.out.2.2.1) (kX ((dB hgw (bO hf.out.2.2.2.1).2.2 QJ).trans hf.out.2.2.2.1) (kX ((dB hgw (bO hf.out.2.2.2.2.1).2.2 QK).trans hf.out.2.2.2.2.1) (kD (kB (kX (fun _=>⟨rfl,gT (pO hB) hgw,p1,p2⟩) (fun _=>nU (hn 11 rfl))))))))) hf.out))
   | (replace mB:=mB;refine hK.out (upd s 24 (.bool false)) _ _ (by simp [ae,e0,e2,e9] <;> rfl) (kX (fun h9=>nU h9 (show upd l 10 true 10=true from rfl)) (kX ((dB hgw (bO hf.out.2.1).2.2 QH).trans hf.out.2.1) (kX ((dB hgw (bO hf.out.2.2.1).2.2 QI).trans hf.out.2.2.1) (kX ((dB hgw (bO hf.out.2.2.2.1).2.2 QJ).trans hf.out.2.2.2.1) (kX ((dB hgw (bO hf.out.2.2.2.2.1).2.2 QK).trans hf.out.2.2.2.2.1) (kD (kB (kX (fun _=>⟨rfl,gT (pO hB) hgw,p1,p2⟩) (fun _=>nU (hn 11 rfl))))))))) hf.out))
  ·have e10:=((jC (jD hf.out)).2.2.2.1 (hd 10 rfl)).1
   go_simp
   first
   | (replace mA:=mA;refine hK.out (upd s 25 (.bool false)) _ _ (by simp [ae,e10] <;> rfl) (kE (fun _=>fun _=>rfl) hf.out))
   | (replace mB:=mB;refine hK.out (upd s 25 (.bool true)) _ _ (by simp [ae,e10] <;> rfl) (kE (fun _=>fun _=>rfl) hf.out))
theorem yQ (c:Ch) (h:Ha) (v1 v2:Value) (lo:Nat) (w:World) (h1:ag w lo v1 c.cells) (h2:ai w lo v2 c.words) (hc0:0≤h.grow) (hc1:h.grow<c.cells.length) (hs:(h.seen != 3)=false) (ht:bn c h.grow 3 6 (cellAt c h.grow).t=true) :
  Calls Tryz.prog 270 #[.agg (af c v1 v2),.agg (aa h)] w fun r w'=>cz w w' lo v1 v2 ((aY c h.grow 3 6 (cellAt c h.grow).t,{ h with pos:=20 },true)) r:=(pq c h v1 v2 lo w h1 h2 hc0 hc1 hs).1 ht
theorem yR (c:Ch) (h:Ha) (v1 v2:Value) (lo:Nat) (w:World) (h1:ag w lo v1 c.cells) (h2:ai w lo v2 c.words) (hc0:0≤h.grow) (hc1:h.grow<c.cells.length) (hs:(h.seen != 3)=false) (ht:bn c h.grow 3 6 (cellAt c h.grow).t=false) :
  Calls Tryz.prog 270 #[.agg (af c v1 v2),.agg (aa h)] w fun r w'=>cz w w' lo v1 v2 ((aY c h.grow 3 6 (cellAt c h.grow).t,{ h with pos:=18 },true)) r:=(pq c h v1 v2 lo w h1 h2 hc0 hc1 hs).2 ht
def mQ (c:Ch) (h:Ha):St:=if h.seen=3 then QL c h 3 6 (cellAt c h.grow).t { h with pos:=20 } { h with pos:=18 } else nothing
theorem yS (c:Ch) (h:Ha) (v1 v2:Value) (lo:Nat) (w:World) (h1:ag w lo v1 c.cells) (h2:ai w lo v2 c.words) (hc0:0≤h.grow) (hc1:h.grow<c.cells.length) :
  cu 270 c h v1 v2 lo w (mQ c h):=by
 by_cases hs:h.seen=3
 ·have e:(h.seen != 3)=false:=by simp [hs]
  cases ht:bn c h.grow 3 6 (cellAt c h.grow).t with
  | true =>
   rw [show mQ c h=(aY c h.grow 3 6 (cellAt c h.grow).t,{ h with pos:=20 },true) by simp [mQ,QL,hs,ht]]
   exact yQ c h v1 v2 lo w h1 h2 hc0 hc1 e ht
  | false =>
   have:=yR c h v1 v2 lo w h1 h2 hc0 hc1 e ht
   rw [kM ht] at this
   rw [show mQ c h=(c,{ h with pos:=18 },true) by simp [mQ,QL,hs,ht]]
   exact this
 ·rw [show mQ c h=nothing by simp [mQ,hs]]
  exact BD c h v1 v2 lo w h1 h2 (by simpa using hs)
end
end Go.Proofs.YtffhjmepfojhnaaGreat
