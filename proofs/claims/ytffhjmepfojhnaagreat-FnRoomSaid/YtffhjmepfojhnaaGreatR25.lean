/-
  The program's keeping in a cell, on hands and channels that are kept whole; the lists are the call's own.
-/
import Derived.Test.YtffhjmepfojhnaaGreatR15
import Derived.BigRegion
import Derived.Deep.DeepCutAuto
import Derived.Deep.RegionHeld3
import Derived.Test.YtffhjmepfojhnaaGreatR17
import Derived.Test.YtffhjmepfojhnaaGreatR04
import Derived.Test.YtffhjmepfojhnaaGreatR20
import Derived.Laws.EntriesVeiled
import Derived.Test.YtffhjmepfojhnaaGreatR01
import Derived.Test.YtffhjmepfojhnaaGreatR24
import Derived.Test.YtffhjmepfojhnaaGreatR21
import Derived.Test.YtffhjmepfojhnaaGreatR23
import Derived.Test.YtffhjmepfojhnaaGreatR13
set_option maxRecDepth 100000
set_option maxHeartbeats 8000000
set_option linter.unusedSimpArgs false
set_option linter.unusedVariables false
namespace Go.Proofs.YtffhjmepfojhnaaGreat
section
open Go.RowKit
attribute [local simp] aC
attribute [local go_sem ↓] aB aU aL bB aM bC aG aN au aF
theorem p9 (c:Ch) (h:Ha) (v1 v2:Value) (lo:Nat) (w:World) (h1:ag w lo v1 c.cells) (h2:ai w lo v2 c.words) (hc0:0≤h.cell) (hc1:h.cell<c.cells.length) :
    (∀ (ht:bn c h.cell h.seen 2 0=true),Calls Tryz.prog 251 #[.agg (af c v1 v2),.agg (aa h)] w fun r w'=>cz w w' lo v1 v2 ((aY c h.cell h.seen 2 0,aP 1 0,true)) r) ∧
    (∀ (ht:bn c h.cell h.seen 2 0=false),Calls Tryz.prog 251 #[.agg (af c v1 v2),.agg (aa h)] w fun r w'=>cz w w' lo v1 v2 ((aY c h.cell h.seen 2 0,{ h with pos:=3 },true)) r):=by
  constructor
  case' left =>
    intro ht
    have mA:Hid (0=0):=rfl
  case' right =>
    intro ht
    have mB:Hid (0=0):=rfl
  all_goals
    obtain ⟨i,hci⟩:∃ i:Nat,h.cell=(i:Int):=⟨h.cell.toNat,by omega⟩
    have hi:i<c.cells.length:=by omega
    have T:=Lib.hid fun W a b=>jO c i h.seen 2 0 v1 v2 lo W a b hi
    have ht2:=ht
    rw [hci] at ht2
    rw [ht2] at T
    have e0:aY c h.cell h.seen 2 0=aY c i h.seen 2 0:=by rw [hci]
    rw [e0]
    have b1:=jF h1
    have b2:=jF h2
    have m1:=mG b1
    have m2:=mG b2
    have m10:=m1 (w.heap.size) tO
    have m20:=m2 (w.heap.size) tO
    have m11:=m1 (w.heap.size+1) tO
    have m21:=m2 (w.heap.size+1) tO
    have m12:=m1 (w.heap.size+1+1) tO
    have m22:=m2 (w.heap.size+1+1) tO
    have m13:=m1 (w.heap.size+1+1+1) tO
    have m23:=m2 (w.heap.size+1+1+1) tO
    have o1:=h1
    have o2:=h2
    obtain ⟨a1,q1,e1,_⟩:=h1.seg
    obtain ⟨a2,q2,e2,_⟩:=h2.seg
    subst e1 e2
    clear h1 h2 ht ht2 e0 hc0 hc1
    go_enter Tryz.func251,Tryz.ntmps251
    go_wp2_with fail;refine (T.out _ (zO o1 o1) (zO o2 o2)).mono ?_;rintro _ w1 ⟨rfl,p1,p2,hgw1⟩;have ay:=hgw1.size;(try (simp at ay));have zz:=NU hgw1 (b:=w.heap.size);(try simp [go_sem] at zz);replace bX:=dF zz;clear zz;have jZ:=FV (w:=w) zB hgw1;clear hgw1
    have vw:ik (Value.slice a1 c.cells.length q1).ownBlock (Value.slice a2 c.words.length q2).ownBlock w w1:=lW jZ
    obtain ⟨k0,k1,k2,k3⟩:=kZ (a:=w.heap.size) (b:=w1.heap.size)
    have r1:ag w1 lo (.slice a1 c.cells.length q1) (aY c i h.seen 2 0).cells:=p1
    have r2:ai w1 lo (.slice a2 c.words.length q2) (aY c i h.seen 2 0).words:=p2
    clear p1 p2
    go_wp2_with fail
    first
    | (replace mA:=mA
       go_region_held3 (fun w'=>hp w' w.heap.size=some (.cells (af c (.slice a1 c.cells.length q1) (.slice a2 c.words.length q2)) 31)∧hp w' (w.heap.size+1)=some (.cells (aa h) 49))
         (first|(simp [*,go_sem]))
         (first|(go_at_call 48;refine (fT _ _ _).mono ?_;rintro _ w2 ⟨rfl,hbw2⟩;have hO2:ik (Value.slice a1 c.cells.length q1).ownBlock (Value.slice a2 c.words.length q2).ownBlock w w2:=fu zN (dx hbw2);have p1:ag w2 lo (.slice a1 c.cells.length q1) (aY c i h.seen 2 0).cells:=own_below (zO r1 o1) hbw2;have p2:ai w2 lo (.slice a2 c.words.length q2) c.words:=own_below (zO r2 o2) hbw2;have bu:=hbw2.size;(try simp at bu);have zz:=zT hbw2 (b:=w.heap.size);(first|simp [go_sem,bX,k0,k1,k2,k3] at zz|simp [go_sem] at zz|skip);replace bX:=dF zz;clear zz hbw2)))
    | (replace mB:=mB
       go_region_held3 (fun w'=>hp w' w.heap.size=some (.cells (af c (.slice a1 c.cells.length q1) (.slice a2 c.words.length q2)) 31)∧hp w' (w.heap.size+1)=some (.cells (aa h) 49))
         (first|(simp [*,go_sem]))
         (first|(go_at_call 247;refine (cZ _ _ _).mono ?_;rintro _ w2 ⟨rfl,hbw2⟩;have hO2:ik (Value.slice a1 c.cells.length q1).ownBlock (Value.slice a2 c.words.length q2).ownBlock w w2:=fu zN (dx hbw2);have p1:ag w2 lo (.slice a1 c.cells.length q1) (aY c i h.seen 2 0).cells:=own_below (zO r1 o1) hbw2;have p2:ai w2 lo (.slice a2 c.words.length q2) c.words:=own_below (zO r2 o2) hbw2;have bu:=hbw2.size;(try simp at bu);have zz:=zT hbw2 (b:=w.heap.size);(first|simp [go_sem,bX,k0,k1,k2,k3] at zz|simp [go_sem] at zz|skip);replace bX:=dF zz;clear zz hbw2)))
    go_wp2
    first
    | (replace mA:=mA;refine rE Tryz.results251 rfl (az c (.slice a1 c.cells.length q1) (.slice a2 c.words.length q2) tZ) rfl (aj (aP 1 0) tZ) ⟨⟨_,_,rfl,?_,?_,ak _ _,ak _ _⟩,by exact zN⟩)
    | (replace mB:=mB;refine rE Tryz.results251 rfl (az c (.slice a1 c.cells.length q1) (.slice a2 c.words.length q2) tZ) rfl (aj { h with pos:=3 } tZ) ⟨⟨_,_,rfl,?_,?_,ak _ _,ak _ _⟩,by exact zN⟩)
    · exact zO p1 o1
    · exact zO p2 o2
theorem zg (c:Ch) (h:Ha) (v1 v2:Value) (lo:Nat) (w:World) (h1:ag w lo v1 c.cells) (h2:ai w lo v2 c.words) (hc0:0≤h.cell) (hc1:h.cell<c.cells.length) (ht:bn c h.cell h.seen 2 0=true) :
    Calls Tryz.prog 251 #[.agg (af c v1 v2),.agg (aa h)] w fun r w'=>cz w w' lo v1 v2 ((aY c h.cell h.seen 2 0,aP 1 0,true)) r:=(p9 c h v1 v2 lo w h1 h2 hc0 hc1).1 ht
theorem zi (c:Ch) (h:Ha) (v1 v2:Value) (lo:Nat) (w:World) (h1:ag w lo v1 c.cells) (h2:ai w lo v2 c.words) (hc0:0≤h.cell) (hc1:h.cell<c.cells.length) (ht:bn c h.cell h.seen 2 0=false) :
    Calls Tryz.prog 251 #[.agg (af c v1 v2),.agg (aa h)] w fun r w'=>cz w w' lo v1 v2 ((aY c h.cell h.seen 2 0,{ h with pos:=3 },true)) r:=(p9 c h v1 v2 lo w h1 h2 hc0 hc1).2 ht
theorem Em {c:Ch} {i f t v:Int} (h:bn c i f t v=false):aY c i f t v=c:=by
  have e:lX (cellAt c i) f t v=cellAt c i:=by
    have h2:jT (cellAt c i).s (cellAt c i).e (cellAt c i).t f t v=false:=h
    simp [lX,sS,sU,h2]
  unfold aY setAt
  rw [e]
  unfold cellAt
  have:c.cells.set i.toNat (c.cells.getD i.toNat ⟨0,0,0⟩)=c.cells:=by
    apply List.ext_getElem?
    intro n
    rw [List.getElem?_set]
    by_cases hn:i.toNat=n
    · subst hn
      by_cases hl:i.toNat<c.cells.length
      · simp [hl]
      · simp [hl,Nat.le_of_not_lt hl]
    · simp [hn]
  rw [this]
theorem BM (c:Ch) (h:Ha) (v1 v2:Value) (lo:Nat) (w:World) (h1:ag w lo v1 c.cells) (h2:ai w lo v2 c.words) (hc0:0≤h.cell) (hc1:h.cell<c.cells.length) (ht:bn c h.cell h.seen 2 0=false) :
    cu 251 c h v1 v2 lo w ((c,{ h with pos:=3 },true)):=by
  have:=zi c h v1 v2 lo w h1 h2 hc0 hc1 ht
  rwa [Em ht] at this
end
section
open Go.RowKit
attribute [local simp] aC
attribute [local go_sem ↓] aB aU aL bB aM bC aG aN au aF
def qL (h:Ha):Bool:=h.seen == 1 || (h.seen == 0 && decide (h.cell<(if h.come<h.fin then h.fin else h.come)))
def jr (c:Ch) (h:Ha):St:=if qL h then nR c h else if h.seen == 0 then MI c h else nothing
theorem nH (c:Ch) (h:Ha) (v1 v2:Value) (lo:Nat) (w:World) (h1:ag w lo v1 c.cells) (h2:ai w lo v2 c.words) (hc0:0≤h.cell) (hc1:h.cell<c.cells.length) :
  cu 251 c h v1 v2 lo w (nR c h):=by
 cases ht:bn c h.cell h.seen 2 0 with
 | true =>
  rw [show nR c h=(aY c h.cell h.seen 2 0,aP 1 0,true) by simp [nR,ht]]
  exact zg c h v1 v2 lo w h1 h2 hc0 hc1 ht
 | false =>
  rw [show nR c h=(c,{ h with pos:=3 },true) by simp [nR,ht]]
  exact BM c h v1 v2 lo w h1 h2 hc0 hc1 ht
theorem He (c:Ch) (h:Ha) (v1 v2:Value) (lo:Nat) (w:World) (h1:ag w lo v1 c.cells) (h2:ai w lo v2 c.words) (hc0:0≤h.cell) (hc1:h.cell<c.cells.length) (hs:(h.seen == 1)=true) :
  cu 244 c h v1 v2 lo w (jr c h):=by
 have e:jr c h=nR c h:=by simp [jr,qL,hs]
 have T:=Lib.hid fun W a b=>nH c h v1 v2 lo W a b hc0 hc1
 rw [← e] at T
 generalize jr c h=x at *
 clear e hc0 hc1
 obtain ⟨a1,q1,a2,q2,rfl,rfl,o1,o2,b1,b2,m1,m2,m10,m20,m11,m21,m12,m22,m13,m23⟩:=Cu h1 h2
 clear h1 h2
 go_enter Tryz.func244,Tryz.ntmps244
 go_wp2_with fail
 refine (T.out _ (zO o1 o1) (zO o2 o2)).mono ?_
 rintro _ w3 ⟨⟨y1,y2,rfl,aV,aX,dL,dI⟩,hO⟩
 have hO3:ik (Value.slice a1 c.cells.length q1).ownBlock (Value.slice a2 c.words.length q2).ownBlock w w3:=fu (dx zB) hO
 have df:=hO.2.2.2.1;(try (simp at df));have zz:=vE hO (b:=w.heap.size);(try simp [go_sem] at zz);replace bX:=dF zz;clear zz
 clear hO
 obtain ⟨⟨aI,aJ⟩,dP,dQ⟩:=sO (w:=w) (w.heap.size+1+1+1+1) dL dI b1 b2;obtain ⟨ya,yp,rfl,_⟩:=aV.seg;obtain ⟨yb,yq,rfl,_⟩:=aX.seg
 go_wp2
 refine rE Tryz.results244 rfl (az x.1 (.slice ya x.1.cells.length yp) (.slice yb x.1.words.length yq) tY) rfl (aj x.2.1 tY) ⟨⟨_,_,rfl,?_,?_,dP,dQ⟩,by exact zN⟩
 ·exact zP aV aV aI
 ·exact zP aX aX aJ
theorem En (c:Ch) (h:Ha) (v1 v2:Value) (lo:Nat) (w:World) (h1:ag w lo v1 c.cells) (h2:ai w lo v2 c.words) (hc0:0≤h.cell) (hc1:h.cell<c.cells.length) (hn:(h.seen == 1)=false) (hs:(h.seen == 0)=true) (hcf:h.come<h.fin) (hx:h.cell<h.fin) :
  cu 244 c h v1 v2 lo w (jr c h):=by
 have e:jr c h=nR c h:=by simp [jr,qL,hs,hcf,hx]
 have T:=Lib.hid fun W a b=>nH c h v1 v2 lo W a b hc0 hc1
 rw [← e] at T
 generalize jr c h=x at *
 clear e hc0 hc1
 obtain ⟨a1,q1,a2,q2,rfl,rfl,o1,o2,b1,b2,m1,m2,m10,m20,m11,m21,m12,m22,m13,m23⟩:=Cu h1 h2
 clear h1 h2
 go_enter Tryz.func244,Tryz.ntmps244
 go_wp2_with fail
 refine (T.out _ (zO o1 o1) (zO o2 o2)).mono ?_
 rintro _ w3 ⟨⟨y1,y2,rfl,aV,aX,dL,dI⟩,hO⟩
 have hO3:ik (Value.slice a1 c.cells.length q1).ownBlock (Value.slice a2 c.words.length q2).ownBlock w w3:=fu (dx zB) hO
 have df:=hO.2.2.2.1;(try (simp at df));have zz:=vE hO (b:=w.heap.size);(try simp [go_sem] at zz);replace bX:=dF zz;clear zz
 clear hO
 obtain ⟨⟨aI,aJ⟩,dP,dQ⟩:=sO (w:=w) (w.heap.size+1+1+1+1) dL dI b1 b2;obtain ⟨ya,yp,rfl,_⟩:=aV.seg;obtain ⟨yb,yq,rfl,_⟩:=aX.seg
 go_wp2
 refine rE Tryz.results244 rfl (az x.1 (.slice ya x.1.cells.length yp) (.slice yb x.1.words.length yq) tY) rfl (aj x.2.1 tY) ⟨⟨_,_,rfl,?_,?_,dP,dQ⟩,by exact zN⟩
 ·exact zP aV aV aI
 ·exact zP aX aX aJ
theorem Eo (c:Ch) (h:Ha) (v1 v2:Value) (lo:Nat) (w:World) (h1:ag w lo v1 c.cells) (h2:ai w lo v2 c.words) (hc0:0≤h.cell) (hc1:h.cell<c.cells.length) (hn:(h.seen == 1)=false) (hs:(h.seen == 0)=true) (hcf:¬ h.come<h.fin) (hx:h.cell<h.come) :
  cu 244 c h v1 v2 lo w (jr c h):=by
 have e:jr c h=nR c h:=by simp [jr,qL,hs,hcf,hx]
 have T:=Lib.hid fun W a b=>nH c h v1 v2 lo W a b hc0 hc1
 rw [← e] at T
 generalize jr c h=x at *
 clear e hc0 hc1
 obtain ⟨a1,q1,a2,q2,rfl,rfl,o1,o2,b1,b2,m1,m2,m10,m20,m11,m21,m12,m22,m13,m23⟩:=Cu h1 h2
 clear h1 h2
 go_enter Tryz.func244,Tryz.ntmps244
 go_wp2_with fail
 refine (T.out _ (zO o1 o1) (zO o2 o2)).mono ?_
 rintro _ w3 ⟨⟨y1,y2,rfl,aV,aX,dL,dI⟩,hO⟩
 have hO3:ik (Value.slice a1 c.cells.length q1).ownBlock (Value.slice a2 c.words.length q2).ownBlock w w3:=fu (dx zB) hO
 have df:=hO.2.2.2.1;(try (simp at df));have zz:=vE hO (b:=w.heap.size);(try simp [go_sem] at zz);replace bX:=dF zz;clear zz
 clear hO
 obtain ⟨⟨aI,aJ⟩,dP,dQ⟩:=sO (w:=w) (w.heap.size+1+1+1+1) dL dI b1 b2;obtain ⟨ya,yp,rfl,_⟩:=aV.seg;obtain ⟨yb,yq,rfl,_⟩:=aX.seg
 go_wp2
 refine rE Tryz.results244 rfl (az x.1 (.slice ya x.1.cells.length yp) (.slice yb x.1.words.length yq) tY) rfl (aj x.2.1 tY) ⟨⟨_,_,rfl,?_,?_,dP,dQ⟩,by exact zN⟩
 ·exact zP aV aV aI
 ·exact zP aX aX aJ
theorem sj (c:Ch) (h:Ha) (v1 v2:Value) (lo:Nat) (w:World) (h1:ag w lo v1 c.cells) (h2:ai w lo v2 c.words) (hc0:0≤h.cell) (hc1:h.cell<c.cells.length) (hc:aK c=true) (hlo:lo≤w.heap.size) (hn:(h.seen == 1)=false) (hs:(h.seen == 0)=true) :
  (∀ (hcf:h.come<h.fin) (hx:¬ h.cell<h.fin),Calls Tryz.prog 244 #[.agg (af c v1 v2),.agg (aa h)] w fun r w'=>cz w w' lo v1 v2 (jr c h) r) ∧
  (∀ (hcf:¬ h.come<h.fin) (hx:¬ h.cell<h.come),Calls Tryz.prog 244 #[.agg (af c v1 v2),.agg (aa h)] w fun r w'=>cz w w' lo v1 v2 (jr c h) r):=by
 constructor
 case' left =>
  intro hcf hx
  have mA:Hid (0=0):=rfl
 case' right =>
  intro hcf hx
  have mB:Hid (0=0):=rfl
 all_goals
  have e:jr c h=MI c h:=by
   have hx2:(decide (h.cell<(if h.come<h.fin then h.fin else h.come)))=false:=by simp only [hcf,if_true,if_false];simpa using hx
   simp only [jr,qL,hn,hs,hx2,Bool.false_or,Bool.and_false,Bool.true_and,if_true]
   rfl
  have T:=Lib.hid fun W a b hl=>yF c h v1 v2 lo W a b hc0 hc1 hc hl
  rw [← e] at T
  generalize jr c h=x at *
  clear e hc0 hc1
  obtain ⟨a1,q1,a2,q2,rfl,rfl,o1,o2,b1,b2,m1,m2,m10,m20,m11,m21,m12,m22,m13,m23⟩:=Cu h1 h2
  clear h1 h2
  go_enter Tryz.func244,Tryz.ntmps244
  go_wp2_with fail
  refine (T.out _ (zO o1 o1) (zO o2 o2) (by simp;omega)).mono ?_
  rintro _ w3 ⟨⟨y1,y2,rfl,aV,aX,dL,dI⟩,hO⟩
  have hO3:ik (Value.slice a1 c.cells.length q1).ownBlock (Value.slice a2 c.words.length q2).ownBlock w w3:=fu (dx zB) hO
  have df:=hO.2.2.2.1;(try (simp at df));have zz:=vE hO (b:=w.heap.size);(try simp [go_sem] at zz);replace bX:=dF zz;clear zz
  clear hO
  obtain ⟨⟨aI,aJ⟩,dP,dQ⟩:=sO (w:=w) (w.heap.size+1+1+1+1) dL dI b1 b2;obtain ⟨ya,yp,rfl,_⟩:=aV.seg;obtain ⟨yb,yq,rfl,_⟩:=aX.seg
  go_wp2
  refine rE Tryz.results244 rfl (az x.1 (.slice ya x.1.cells.length yp) (.slice yb x.1.words.length yq) tY) rfl (aj x.2.1 tY) ⟨⟨_,_,rfl,?_,?_,dP,dQ⟩,by exact zN⟩
  ·exact zP aV aV aI
  ·exact zP aX aX aJ
theorem Ep (c:Ch) (h:Ha) (v1 v2:Value) (lo:Nat) (w:World) (h1:ag w lo v1 c.cells) (h2:ai w lo v2 c.words) (hc0:0≤h.cell) (hc1:h.cell<c.cells.length) (hc:aK c=true) (hlo:lo≤w.heap.size) (hn:(h.seen == 1)=false) (hs:(h.seen == 0)=true) (hcf:h.come<h.fin) (hx:¬ h.cell<h.fin) :
  Calls Tryz.prog 244 #[.agg (af c v1 v2),.agg (aa h)] w fun r w'=>cz w w' lo v1 v2 (jr c h) r:=(sj c h v1 v2 lo w h1 h2 hc0 hc1 hc hlo hn hs).1 hcf hx
theorem Er (c:Ch) (h:Ha) (v1 v2:Value) (lo:Nat) (w:World) (h1:ag w lo v1 c.cells) (h2:ai w lo v2 c.words) (hc0:0≤h.cell) (hc1:h.cell<c.cells.length) (hc:aK c=true) (hlo:lo≤w.heap.size) (hn:(h.seen == 1)=false) (hs:(h.seen == 0)=true) (hcf:¬ h.come<h.fin) (hx:¬ h.cell<h.come) :
  Calls Tryz.prog 244 #[.agg (af c v1 v2),.agg (aa h)] w fun r w'=>cz w w' lo v1 v2 (jr c h) r:=(sj c h v1 v2 lo w h1 h2 hc0 hc1 hc hlo hn hs).2 hcf hx
theorem Hf (c:Ch) (h:Ha) (v1 v2:Value) (lo:Nat) (w:World) (h1:ag w lo v1 c.cells) (h2:ai w lo v2 c.words) (hc0:0≤h.cell) (hc1:h.cell<c.cells.length) (hn:(h.seen == 1)=false) (hs:(h.seen == 0)=false) :
  cu 244 c h v1 v2 lo w (jr c h):=by
 have e:jr c h=nothing:=by simp [jr,qL,hs,hn]
 have T:=Lib.hid fun W=>fw W lo v1 v2
 rw [← e] at T
 generalize jr c h=x at *
 clear e hc0 hc1
 obtain ⟨a1,q1,a2,q2,rfl,rfl,o1,o2,b1,b2,m1,m2,m10,m20,m11,m21,m12,m22,m13,m23⟩:=Cu h1 h2
 clear h1 h2
 go_enter Tryz.func244,Tryz.ntmps244
 go_wp2_with fail
 refine (T.out _).mono ?_
 rintro _ w3 ⟨⟨y1,y2,rfl,aV,aX,dL,dI⟩,TF⟩
 have hO:=dx (a:=(Value.slice a1 c.cells.length q1).ownBlock) (b:=(Value.slice a2 c.words.length q2).ownBlock) TF
 have hO3:ik (Value.slice a1 c.cells.length q1).ownBlock (Value.slice a2 c.words.length q2).ownBlock w w3:=fu (dx zB) hO
 have df:=hO.2.2.2.1;(try (simp at df));have zz:=vE hO (b:=w.heap.size);(try simp [go_sem] at zz);replace bX:=dF zz;clear zz
 clear hO TF
 obtain ⟨⟨aI,aJ⟩,dP,dQ⟩:=sO (w:=w) (w.heap.size+1+1+1+1) dL dI b1 b2;obtain ⟨ya,yp,rfl,_⟩:=aV.seg;obtain ⟨yb,yq,rfl,_⟩:=aX.seg
 go_wp2
 refine rE Tryz.results244 rfl (az x.1 (.slice ya x.1.cells.length yp) (.slice yb x.1.words.length yq) tY) rfl (aj x.2.1 tY) ⟨⟨_,_,rfl,?_,?_,dP,dQ⟩,by exact zN⟩
 ·exact zP aV aV aI
 ·exact zP aX aX aJ
theorem BN (c:Ch) (h:Ha) (v1 v2:Value) (lo:Nat) (w:World) (h1:ag w lo v1 c.cells) (h2:ai w lo v2 c.words) (hc0:0≤h.cell) (hc1:h.cell<c.cells.length) (hc:aK c=true) (hlo:lo≤w.heap.size) :
  cu 244 c h v1 v2 lo w (jr c h):=by
 cases hn:(h.seen == 1) with
 | true=>exact He c h v1 v2 lo w h1 h2 hc0 hc1 hn
 | false =>
  cases hs:(h.seen == 0) with
  | false=>exact Hf c h v1 v2 lo w h1 h2 hc0 hc1 hn hs
  | true =>
   by_cases hcf:h.come<h.fin
   ·by_cases hx:h.cell<h.fin
    ·exact En c h v1 v2 lo w h1 h2 hc0 hc1 hn hs hcf hx
    ·exact Ep c h v1 v2 lo w h1 h2 hc0 hc1 hc hlo hn hs hcf hx
   ·by_cases hx:h.cell<h.come
    ·exact Eo c h v1 v2 lo w h1 h2 hc0 hc1 hn hs hcf hx
    ·exact Er c h v1 v2 lo w h1 h2 hc0 hc1 hc hlo hn hs hcf hx
end
section
open Go.RowKit
attribute [local simp] aC
attribute [local go_sem ↓] aB aU aL bB aM bC aG aN au aF
def MZ:Array Value:=#[.nilFunc,.func (.func 239) #[] #[],.func (.func 240) #[] #[],.func (.func 241) #[] #[],.func (.func 242) #[] #[],.func (.func 243) #[] #[],.func (.func 244) #[] #[],.func (.func 245) #[] #[],.func (.func 246) #[] #[]]
theorem su (w:World):Calls Tryz.prog 238 #[] w fun r w'=>r=.returned (.agg MZ)∧Below w.heap.size w w':=by
 go_enter Tryz.func238,Tryz.ntmps238
 go_wp2
 refine bodyPost_ret (v:=.agg MZ) (by simp [results,Tryz.results238,go_sem,MZ, *]) rfl ⟨rfl,by exact zB⟩
theorem FL (F:Nat) (w:World):(binOp .eql 240 (.func (.func F) #[] #[]) .nilFunc).run Tryz.prog w=.ok (.bool false) w:=by
 have u:=Tryz.underlying240
 simp only [binOp,Op.equal,Op.maxDepth]
 rw [show (10000:Nat)=9999+1 from rfl]
 generalize (9999:Nat)=d
 rw [Op.equalIn]
 simp [Sem.run_bind,run_underlying u,Result.andThen]
attribute [local go_sem ↓] FL
theorem fP (F k:Nat) (x:St) (c:Ch) (h:Ha) (v1 v2:Value) (lo:Nat) (w:World) (h1:ag w lo v1 c.cells) (h2:ai w lo v2 c.words) (hlo:lo≤w.heap.size) (hk:h.code=1) (hpos:h.pos=(k:Int)) (Xr:k<9) (hfun:MZ[k]?=some (.func (.func F) #[] #[])) (eg:∀ args w,(callFunc F args).run Tryz.prog w=.ok (.enter F args) w) (HF:∀ (v1 v2:Value) (lo:Nat) (W:World),ag W lo v1 c.cells→ai W lo v2 c.words→lo≤W.heap.size→Calls Tryz.prog F #[.agg (af c v1 v2),.agg (aa h)] W fun r w'=>cz W w' lo v1 v2 x r) :
  cu 237 c h v1 v2 lo w x:=by
 obtain ⟨a1,q1,a2,q2,rfl,rfl,O1,O2,b1,b2⟩:=ql h1 h2
 clear h1 h2
 have hk1:(h.code != 1)=false:=by simp [hk]
 have hk0:(0:Int)≤(k:Int):=by omega
 have Xt:(k:Int)<9:=by omega
 have Xu:¬ (9:Int)≤(k:Int):=by omega
 clear hk
 have Pg:=Lib.hid HF
 have TT:=Lib.hid fun w=>su w
 clear HF
 have o1:=O1.out
 have o2:=O2.out
 go_enter Tryz.func237,Tryz.ntmps237
 go_wp2_with fail;refine ax w zB fun bb=>?_;refine (TT.out _).mono ?_;rintro _ w1 ⟨rfl,ah⟩;have aW:Below w.heap.size w w1:=bT bb ah;have ay:=ah.size;(try simp at ay);have zz:=q4 ah (b:=w.heap.size);(try simp [go_sem] at zz);(try clear aA bK bL aR);(try clear aH cB cK bq);(try clear bz di dz bZ);(try clear dw dV eD dJ);obtain ⟨aA,aH,bz,dw⟩:=zz;obtain ⟨bK,bL,aR⟩:=bO aA;obtain ⟨cB,cK,bq⟩:=bO aH;obtain ⟨di,dz,bZ⟩:=bO bz;obtain ⟨dV,eD,dJ⟩:=bO dw;have dG:Below w.heap.size w w1:=aW;clear ah bb
 have p1:=own_below o1 dG
 have p2:=own_below o2 dG
 unfold MZ
 go_upto_region 2 with fail
 generalize hw2:World.alloc w1 _=w2
 have zt:hp w2 w1.heap.size=some (.cells MZ 241):=by rw [← hw2];simp [go_sem,MZ]
 have hE:Below w1.heap.size w1 w2:=by rw [← hw2];exact aQ _ _
 clear hw2
 have hO2:ik (Value.slice a1 c.cells.length q1).ownBlock (Value.slice a2 c.words.length q2).ownBlock w w2:=dx (bT dG hE)
 have hS2:lo≤w2.heap.size:=Nat.le_trans hlo (bT dG hE).size
 have hw3:w.heap.size+1+1+1<w1.heap.size:=aR
 replace p1:=own_below p1 hE
 replace p2:=own_below p2 hE
 replace dw:=dS dw hE
 replace bz:=dS bz hE
 replace aH:=dS aH hE
 replace aA:=dS aA hE
 clear dV eD dJ di dz bZ cB cK bq bK bL aR o1 o2
 obtain ⟨RL,VN,VO⟩:=bO zt
 obtain ⟨dV,eD,dJ⟩:=bO dw
 obtain ⟨di,dz,bZ⟩:=bO bz
 have hq:=(RL k).trans hfun
 clear RL
 have hp0:w2.cell? ⟨w.heap.size+1,0,none⟩=some (.int .i64 k):=(di 0).trans (by rw [xR,hpos])
 go_upto_region 4 with fail
 refine bI [[],[0],[0,1],[0,1,2],[],[],[0,1,2,3,4,5],[0,1,2,3,4,5,6],[0,1,2,3,4,5,6],[0,1,2,3,4,5,6],qB [],[0,1,2,3,4,5,6,8],[0,1,2,3,4,5,6,9]] [29,30,31,32,33,34,35,36,37,38,6] (fun l s wx=>(ik (Value.slice a1 c.cells.length q1).ownBlock (Value.slice a2 c.words.length q2).ownBlock w wx)∧(hp wx w.heap.size=some (.cells (af c (Value.slice a1 c.cells.length q1) (Value.slice a2 c.words.length q2)) 31))∧(hp wx (w.heap.size+1)=some (.cells (aa h) 49))∧(hp wx w1.heap.size=some (.cells MZ 241))∧(hp wx (w.heap.size+1+1)=some (.cells (cond (l 10) (af x.1 (s 1003) (s 1004)) (af Ch.zero (.slice none 0 0) (.slice none 0 0))) 31))∧(hp wx (w.heap.size+1+1+1)=some (.cells (cond (l 11) (aa x.2.1) (aa Ha.zero)) 49))∧(l 6=false→ag wx lo (Value.slice a1 c.cells.length q1) c.cells)∧(l 6=false→ai wx lo (Value.slice a2 c.words.length q2) c.words)∧(lo≤wx.heap.size)∧(l 0=true→s 29=.pointer (some ⟨w.heap.size+1,0,none⟩))∧(l 1=true→s 30=.int .i64 k)∧(l 2=true→s 31=.pointer (some ⟨w1.heap.size,k,none⟩))∧(l 3=true→s 32=.func (.func F) #[] #[])∧(l 4=true→s 33=.agg (af c (Value.slice a1 c.cells.length q1) (Value.slice a2 c.words.length q2)))∧(l 5=true→s 34=.agg (aa h))∧(l 6=true→s 35=.tuple #[.agg (af x.1 (s 1003) (s 1004)),.agg (aa x.2.1),.bool x.2.2]∧ag wx lo (s 1003) x.1.cells∧ai wx lo (s 1004) x.1.words∧dW w (Value.slice a1 c.cells.length q1) (s 1003)∧dW w (Value.slice a2 c.words.length q2) (s 1004))∧(l 7=true→s 36=.agg (af x.1 (s 1003) (s 1004)))∧(l 8=true→s 37=.agg (aa x.2.1))∧(l 9=true→s 38=.bool x.2.2)∧(l 12=true→s 6=.bool x.2.2)) (by kernel_rfl) (by kernel_rfl) (by kernel_rfl) (fun s=>by (simp only [fill,fC,List.setIfInBounds_toArray,List.set_cons_zero,List.set_cons_succ];rfl)) (fun s=>⟨oD hO2,dw,bz,zt,aH,aA,fun _=>vv p1,fun _=>vv p2,hS2,nB,nB,nB,nB,nB,nB,nB,nB,nB,nB,nB⟩) ?_ ?_
 refine ⟨?_,?_,?_,?_,?_,?_,?_,?_,?_,?_,?_,?_,?_,trivial⟩;iterate 13 (intro l s wx hl hd hn hf K hK;rotate_left)
 ·intro l s wx hall hf
  have hO:=hf.1
  have z1:=hf.2.2.2.2.1
  have z2:=(jC hf).2.1
  rw [hall 10 rfl] at z1
  rw [hall 11 rfl] at z2
  dsimp only [cond] at z1 z2
  obtain ⟨_,X1,X2,F1,F2⟩:=((jC (jD hf)).2.2.2.1 (hall 6 rfl))
  have ec:=((jE hf).2.2.2 (hall 12 rfl))
  simp only [ec]
  clear ec hf hall
  go_wp2
  exact bodyPost_ret (iV Tryz.results237 rfl (az x.1 _ _ z1) rfl (aj x.2.1 z2)) rfl ⟨⟨_,_,rfl,X1,X2,F1,F2⟩,hO⟩
 ·go_simp
  refine hK.out (upd s 29 (.pointer (some ⟨w.heap.size+1,0,none⟩))) _ _ (by simp [ae] <;> rfl) (kD (kA (kX (fun _=>rfl) id)) hf.out)
 ·have e0:=((jD hf.out).2.1 (hd 0 rfl))
  have z:wx.cell? ⟨w.heap.size+1,0,none⟩=some (.int .i64 k):=((bO hf.out.2.2.1).1 0).trans (by rw [xR,hpos])
  go_simp
  refine hK.out (upd s 30 (.int .i64 k)) _ _ (by simp [ae,e0] <;> rfl) (kD (kB (kX (fun _=>rfl) id)) hf.out)
 ·have e1:=((jD hf.out).2.2.1 (hd 1 rfl))
  go_simp
  refine hK.out (upd s 31 (.pointer (some ⟨w1.heap.size,k,none⟩))) _ _ (by simp [ae,e1] <;> rfl) (kD (kB (kA (kX (fun _=>rfl) id))) hf.out)
 ·have e2:=((jD hf.out).2.2.2.1 (hd 2 rfl))
  have z:wx.cell? ⟨w1.heap.size,k,none⟩=some (.func (.func F) #[] #[]):=((bO hf.out.2.2.2.1).1 k).trans hfun
  go_simp
  refine hK.out (upd s 32 (.func (.func F) #[] #[])) _ _ (by simp [ae,e2] <;> rfl) (kD (kC (kX (fun _=>rfl) id)) hf.out)
 ·have zc:=hf.out.2.1
  go_simp
  refine hK.out (upd s 33 (.agg (af c (Value.slice a1 c.cells.length q1) (Value.slice a2 c.words.length q2)))) _ _ (by simp [ae] <;> rfl) (kD (kC (kA (kX (fun _=>rfl) id))) hf.out)
 ·have zh:=hf.out.2.2.1
  go_simp
  refine hK.out (upd s 34 (.agg (aa h))) _ _ (by simp [ae] <;> rfl) (kD (kC (kB (kX (fun _=>rfl) id))) hf.out)
 ·have e3:=((jC (jD hf.out)).1 (hd 3 rfl))
  have e4:=((jC (jD hf.out)).2.1 (hd 4 rfl))
  have e5:=((jC (jD hf.out)).2.2.1 (hd 5 rfl))
  have o1:=(jC hf.out).2.2.1 hl
  have o2:=(jC hf.out).2.2.2.1 hl
  go_simp
  refine (Pg.out _ _ lo _ o1 o2 (jD hf.out).1).mono ?_
  rintro _ wy ⟨⟨y1,y2,rfl,X1,X2,F1,F2⟩,hO⟩
  refine hK.out (upd (upd (upd s 1003 (y1)) 1004 (y2)) 35 (.tuple #[.agg (af x.1 y1 y2),.agg (aa x.2.1),.bool x.2.2])) _ _ (by simp [ae,e3,e4,e5] <;> rfl) (kX (fu hf.out.1 hO) (kX (fA hf.out.2.1 hO o1 o2 (by decide) (by decide)) (kX (fA hf.out.2.2.1 hO o1 o2 (by decide) (by decide)) (kX (fA hf.out.2.2.2.1 hO o1 o2 (by decide) (by decide)) (kX (by (have ee:l 10=false:=hn 10 rfl);(have F:=hf.out.2.2.2.2.1);rw [ee] at F;rw [show upd l 6 true 10=false from ee];exact fA F hO o1 o2 (by decide) (by decide)) (kX (by (have ee:l 11=false:=hn 11 rfl);(have F:=(jC hf.out).2.1);rw [ee] at F;rw [show upd l 6 true 11=false from ee];exact fA F hO o1 o2 (by decide) (by decide)) (kX (fun h4=>absurd h4 (by rw [show upd l 6 true 6=true from rfl];decide)) (kX (fun h4=>absurd h4 (by rw [show upd l 6 true 6=true from rfl];decide)) (kX (Nat.le_trans (jD hf.out).1 hO.2.2.2.1) (kC (kB (kX (fun _=>⟨rfl,X1,X2,fun j hj=>(F1 j hj).imp id (fun h=>Nat.le_trans hf.out.1.2.2.2.1 h),fun j hj=>(F2 j hj).imp id (fun h=>Nat.le_trans hf.out.1.2.2.2.1 h)⟩) (kX (nU (hn 7 rfl)) (kX (nU (hn 8 rfl)) (kX (nU (hn 9 rfl)) (fun _=>nU (hn 12 rfl)))))))))))))))) hf.out)
 ·have e6:=((jC (jD hf.out)).2.2.2.1 (hd 6 rfl)).1
  go_simp
  refine hK.out (upd s 36 (.agg (af x.1 (s 1003) (s 1004)))) _ _ (by simp [ae,e6] <;> rfl) (kE (kX (fun _=>rfl) id) hf.out)
 ·have e6:=((jC (jD hf.out)).2.2.2.1 (hd 6 rfl)).1
  go_simp
  refine hK.out (upd s 37 (.agg (aa x.2.1))) _ _ (by simp [ae,e6] <;> rfl) (kE (kA (kX (fun _=>rfl) id)) hf.out)
 ·have e6:=((jC (jD hf.out)).2.2.2.1 (hd 6 rfl)).1
  go_simp
  refine hK.out (upd s 38 (.bool x.2.2)) _ _ (by simp [ae,e6] <;> rfl) (kE (kB (kX (fun _=>rfl) id)) hf.out)
 ·have e7:=((jE hf.out).1 (hd 7 rfl))
  have e6:=((jC (jD hf.out)).2.2.2.1 (hd 6 rfl))
  have X1:=e6.2.1
  have X2:=e6.2.2.1
  clear e6
  have zr:=hf.out.2.2.2.2.1
  rw [hl] at zr
  dsimp only [cond] at zr
  obtain ⟨xa,xp,ea,_⟩:=X1.seg
  obtain ⟨xb,xq,mq,_⟩:=X2.seg
  rw [ea,mq] at e7
  have zn:hp (bY wx (w.heap.size+1+1) (af x.1 (.slice xa x.1.cells.length xp) (.slice xb x.1.words.length xq))) (w.heap.size+1+1)=some (.cells (af x.1 (s 1003) (s 1004)) 31):=by rw [ea,mq];exact fH zr
  go_simp
  refine hK.out (s) _ _ (by simp [ae,e7,ea,mq] <;> rfl) (kX (oX hf.out.1 tO) (kX ((aD tO).trans hf.out.2.1) (kX ((aD tO).trans hf.out.2.2.1) (kX ((aD tO).trans hf.out.2.2.2.1) (kX (zn) (kX ((aD tO).trans (jC hf.out).2.1) (kX (fun h4=>absurd ((hd 6 rfl).symm.trans h4) (by decide)) (kX (fun h4=>absurd ((hd 6 rfl).symm.trans h4) (by decide)) (kX (Nat.le_trans (jD hf.out).1 (Nat.le_of_eq aC.symm)) (kC (kB (kX (fun h=>(let ⟨e,X1,X2,F1,F2⟩:=(jC (jD hf.out)).2.2.2.1 h;⟨e,cO X1 zr (by decide),cO X2 zr (by decide),F1,F2⟩)) id))))))))))) hf.out)
 ·have e8:=((jE hf.out).2.1 (hd 8 rfl))
  have e6:=((jC (jD hf.out)).2.2.2.1 (hd 6 rfl))
  have X1:=e6.2.1
  have X2:=e6.2.2.1
  clear e6
  have zr:=(jC hf.out).2.1
  rw [hl] at zr
  dsimp only [cond] at zr
  have zn:hp (bY wx (w.heap.size+1+1+1) (aa x.2.1)) (w.heap.size+1+1+1)=some (.cells (aa x.2.1) 49):=by exact fH zr
  go_simp
  refine hK.out (s) _ _ (by simp [ae,e8] <;> rfl) (kX (oX hf.out.1 tO) (kX ((aD tO).trans hf.out.2.1) (kX ((aD tO).trans hf.out.2.2.1) (kX ((aD tO).trans hf.out.2.2.2.1) (kX ((aD tO).trans hf.out.2.2.2.2.1) (kX (zn) (kX (fun h4=>absurd ((hd 6 rfl).symm.trans h4) (by decide)) (kX (fun h4=>absurd ((hd 6 rfl).symm.trans h4) (by decide)) (kX (Nat.le_trans (jD hf.out).1 (Nat.le_of_eq aC.symm)) (kC (kB (kX (fun h=>(let ⟨e,X1,X2,F1,F2⟩:=(jC (jD hf.out)).2.2.2.1 h;⟨e,cO X1 zr (by decide),cO X2 zr (by decide),F1,F2⟩)) id))))))))))) hf.out)
 ·have e9:=((jE hf.out).2.2.1 (hd 9 rfl))
  go_simp
  refine hK.out (upd s 6 (.bool x.2.2)) _ _ (by simp [ae,e9] <;> rfl) (kE (kB (kA (fun _=>fun _=>rfl))) hf.out)
end
section
open Go.RowKit
attribute [local simp] aC
attribute [local go_sem ↓] aB aU aL bB aM bC aG aN au aF
theorem zl (c:Ch) (h:Ha) (v1 v2:Value) (lo:Nat) (w:World) (h1:ag w lo v1 c.cells) (h2:ai w lo v2 c.words) (hc0:0≤h.cell) (hc1:h.cell<c.cells.length) (hk:dO h.code h.elem=true) :
  cu 241 c h v1 v2 lo w (Dz c h):=by
 obtain ⟨X,hX⟩:∃ X,Dz c h=X:=⟨_,rfl⟩
 rw [hX]
 have b1:=jF h1
 have b2:=jF h2
 have T:=Lib.hid fun W=>fw W lo v1 v2
 obtain ⟨x,hN⟩:∃ x:St,x=nothing:=⟨_,rfl⟩
 rw [← hN] at T
 obtain ⟨i,hci⟩:∃ i:Nat,h.cell=(i:Int):=⟨h.cell.toNat,by omega⟩
 have hi:i<c.cells.length:=by omega
 have hi0:(0:Int)≤(i:Int):=by omega
 have hi1:(i:Int)<(c.cells.length:Int):=by omega
 have hne:=h1.ne h2
 obtain ⟨a2,q2,rfl,_⟩:=h2.seg
 obtain ⟨g,q1,rfl,hlo1,hlt,hcell,hfr⟩:=h1.open1 hi
 have O1:=Lib.hid h1
 have O2:=Lib.hid h2
 have m1:∀ j,w.heap.size≤j→some j≠(Value.slice (some ⟨g,0,none⟩) c.cells.length q1).ownBlock:=fun j hj e=>by have:=b1 _ e.symm;omega
 have m2:∀ j,w.heap.size≤j→some j≠(Value.slice a2 c.words.length q2).ownBlock:=fun j hj e=>by have:=b2 _ e.symm;omega
 have m10:=m1 (w.heap.size) tO
 have m11:=m1 (w.heap.size+1) tO
 have m12:=m1 (w.heap.size+1+1) tO
 have m13:=m1 (w.heap.size+1+1+1) tO
 have m20:=m2 (w.heap.size) tO
 have m21:=m2 (w.heap.size+1) tO
 have m22:=m2 (w.heap.size+1+1) tO
 have m23:=m2 (w.heap.size+1+1+1) tO
 have jI:g<w.heap.size+1:=by omega
 have jJ:g<w.heap.size+1+1:=by omega
 have jK:g<w.heap.size+1+1+1:=by omega
 have vH:g≠w.heap.size:=by omega
 have vI:g≠w.heap.size+1:=by omega
 have vJ:g≠w.heap.size+1+1:=by omega
 have vK:g≠w.heap.size+1+1+1:=by omega
 have xC:w.heap.size≠g:=by omega
 have xD:w.heap.size+1≠g:=by omega
 have xE:w.heap.size+1+1≠g:=by omega
 have xG:w.heap.size+1+1+1≠g:=by omega
 have hx:Hid (cellAt c h.cell=c.cells.getD i ⟨0,0,0⟩):=by simp [cellAt,Hid,hci]
 have c0:=hcell 0 tO
 have c1:=hcell 1 tO
 have c2:=hcell 2 tO
 simp only [C3.val,Nat.add_zero] at c0 c1 c2
 have ex:=hx.out
 generalize c.cells.getD i ⟨0,0,0⟩=x0 at *
 obtain ⟨ss,e,t⟩:=x0
 simp only at c0 c1 c2
 obtain ⟨k0,hk0⟩:∃ k0,anew (bM h ⟨ss,e,t⟩)=k0:=⟨_,rfl⟩
 have AN:=fun W=>oq (bM h ⟨ss,e,t⟩) hk W
 rw [hk0] at AN
 have F0:=fun hn:ss=0=>(show X=(c,{ bM h ⟨ss,e,t⟩ with pos:=4 },true) by (rw [← hX];simp [Dz,iB ex 0 hn]))
 have F1:=fun hn:ss=1=>(show X=(c,{ bM h ⟨ss,e,t⟩ with pos:=6 },true) by (rw [← hX];simp [Dz,iB ex 1 hn]))
 have F4:=fun hn:ss=4=>(show X=(c,{ bM h ⟨ss,e,t⟩ with pos:=7 },true) by (rw [← hX];simp [Dz,iB ex 4 hn]))
 have F8:=fun hn:ss=8=>(show X=(c,k0,true) by (rw [← hX,← hk0];simp [Dz,iB ex 8 hn]))
 have RN:=fun hn:ss=10=>(show X=(c,k0,true) by (rw [← hX,← hk0];simp [Dz,iB ex 10 hn]))
 have Fn:=fun (n0:¬ ss=0) (n1:¬ ss=1) (n4:¬ ss=4) (n8:¬ ss=8) (n10:¬ ss=10)=>(show X=x by (rw [← hX,hN];simp [Dz,iB ex ss rfl,n0,n1,n4,n8,n10]))
 replace F0:=Lib.hid F0
 replace F1:=Lib.hid F1
 replace F4:=Lib.hid F4
 replace F8:=Lib.hid F8
 replace RN:=Lib.hid RN
 replace Fn:=Lib.hid Fn
 replace AN:=Lib.hid AN
 clear hcell hx h1 h2 hc0 hc1 ex hX hk0 hN
 have o1:=O1.out
 have o2:=O2.out
 have NI:=Lib.hid hci
 clear hci
 go_enter Tryz.func241,Tryz.ntmps241
 go_upto_region 1 with fail
 refine bI [[],[],[1],[],[3],[1,2,3,4],[1,2,3,4,5],[0,1,2,3,4,5,6],qB []] [7,8,9,10,11,12,13,14] (fun l s wx=>(Below w.heap.size w wx)∧(hp wx w.heap.size=some (.cells (af c (.slice (some ⟨g,0,none⟩) c.cells.length q1) (.slice a2 c.words.length q2)) 31))∧(hp wx (w.heap.size+1)=some (.cells (cond (l 8) (aa { h with seen:=ss,wait:=t }) (aa h)) 49))∧(hp wx (w.heap.size+1+1)=some (.cells (af Ch.zero (.slice none 0 0) (.slice none 0 0)) 31))∧(hp wx (w.heap.size+1+1+1)=some (.cells (aa Ha.zero) 49))∧(l 0=true→s 7=.agg (aa h))∧(l 1=true→s 8=.pointer (some ⟨w.heap.size,4,none⟩))∧(l 2=true→s 9=.slice (some ⟨g,0,none⟩) c.cells.length q1)∧(l 3=true→s 10=.pointer (some ⟨w.heap.size+1,3,none⟩))∧(l 4=true→s 11=.int .i64 i)∧(l 5=true→s 12=.pointer (some ⟨g,i*3,none⟩))∧(l 6=true→s 13=.agg #[.int .i64 ss,.int .i64 e,.int .i64 t])∧(l 7=true→s 14=.agg (aa { h with seen:=ss,wait:=t }))) (by kernel_rfl) (by kernel_rfl) (by kernel_rfl) (fun s=>by (simp only [fill,fC,List.setIfInBounds_toArray,List.set_cons_zero,List.set_cons_succ];rfl)) (fun s=>⟨by exact zB,by simp [go_sem],by simp [go_sem],by simp [go_sem],by simp [go_sem],nB,nB,nB,nB,nB,nB,nB,nB⟩) ?_ ?_
 refine ⟨?_,?_,?_,?_,?_,?_,?_,?_,?_,trivial⟩;iterate 9 (intro l s wx hl hd hn hf K hK;rotate_left)
 ·intro l s w0 hall hf
  have BO:=hf.1
  have dw:=hf.2.1
  have bz:=hf.2.2.1
  have aH:=hf.2.2.2.1
  have aA:=hf.2.2.2.2.1
  rw [hall 8 rfl] at bz
  dsimp only [cond] at bz
  clear hf hall
  obtain ⟨dV,eD,dJ⟩:=bO dw
  obtain ⟨di,dz,bZ⟩:=bO bz
  obtain ⟨cB,cK,bq⟩:=bO aH
  obtain ⟨bK,bL,aR⟩:=bO aA
  have p1:=own_below o1 BO
  have p2:=own_below o2 BO
  have hs0:=BO.size
  have hs4:w.heap.size+1+1+1+1≤w0.heap.size:=aR
  by_cases n0:ss=0
  ·subst n0
   have eX:=F0.out rfl
   subst eX
   go_wp2_with fail
   go_region_held3 (fun w'=>hp w' w.heap.size=some (.cells (af c (.slice (some ⟨g,0,none⟩) c.cells.length q1) (.slice a2 c.words.length q2)) 31)∧hp w' (w.heap.size+1)=some (.cells (aa { h with seen:=0,wait:=t }) 49))
    (first|(simp [*,go_sem]))
    (first|((go_at_call 247;refine ax w zB fun bb=>?_;refine ax w0 zB fun bk=>?_;refine (cZ _ _ _).mono ?_;rintro _ w1 ⟨rfl,ah⟩;have aW:Below w.heap.size w w1:=bT bb ah;have ay:=ah.size;(try simp at ay);have zz:=q4 ah (b:=w.heap.size);(first|simp [go_sem,aA,aH,bz,dw,dJ,bZ,bq,aR] at zz|simp [go_sem] at zz|skip);(try clear aA bK bL aR);(try clear aH cB cK bq);(try clear bz di dz bZ);(try clear dw dV eD dJ);obtain ⟨aA,aH,bz,dw⟩:=zz;obtain ⟨bK,bL,aR⟩:=bO aA;obtain ⟨cB,cK,bq⟩:=bO aH;obtain ⟨di,dz,bZ⟩:=bO bz;obtain ⟨dV,eD,dJ⟩:=bO dw;have dG:Below w0.heap.size w0 w1:=bT bk ah;clear ah bb bk);have p1:=own_below p1 dG;have p2:=own_below p2 dG))
   go_wp2
   refine rE Tryz.results241 rfl (az c (.slice (some ⟨g,0,none⟩) c.cells.length q1) (.slice a2 c.words.length q2) tZ) rfl (aj { bM h ⟨0,e,t⟩ with pos:=4 } (by simp [go_sem, *] <;> first|rfl|simp [bM,anew,hci])) ⟨⟨_,_,rfl,?_,?_,ak _ _,ak _ _⟩,dx zB⟩
   ·exact zO p1 o1
   ·exact zO p2 o2
  by_cases n1:ss=1
  ·subst n1
   have eX:=F1.out rfl
   subst eX
   go_wp2_with fail
   go_region_held3 (fun w'=>hp w' w.heap.size=some (.cells (af c (.slice (some ⟨g,0,none⟩) c.cells.length q1) (.slice a2 c.words.length q2)) 31)∧hp w' (w.heap.size+1)=some (.cells (aa { h with seen:=1,wait:=t }) 49))
    (first|(simp [*,go_sem]))
    (first|((go_at_call 247;refine ax w zB fun bb=>?_;refine ax w0 zB fun bk=>?_;refine (cZ _ _ _).mono ?_;rintro _ w1 ⟨rfl,ah⟩;have aW:Below w.heap.size w w1:=bT bb ah;have ay:=ah.size;(try simp at ay);have zz:=q4 ah (b:=w.heap.size);(first|simp [go_sem,aA,aH,bz,dw,dJ,bZ,bq,aR] at zz|simp [go_sem] at zz|skip);(try clear aA bK bL aR);(try clear aH cB cK bq);(try clear bz di dz bZ);(try clear dw dV eD dJ);obtain ⟨aA,aH,bz,dw⟩:=zz;obtain ⟨bK,bL,aR⟩:=bO aA;obtain ⟨cB,cK,bq⟩:=bO aH;obtain ⟨di,dz,bZ⟩:=bO bz;obtain ⟨dV,eD,dJ⟩:=bO dw;have dG:Below w0.heap.size w0 w1:=bT bk ah;clear ah bb bk);have p1:=own_below p1 dG;have p2:=own_below p2 dG))
   go_wp2
   refine rE Tryz.results241 rfl (az c (.slice (some ⟨g,0,none⟩) c.cells.length q1) (.slice a2 c.words.length q2) tZ) rfl (aj { bM h ⟨1,e,t⟩ with pos:=6 } (by simp [go_sem, *] <;> first|rfl|simp [bM,anew,hci])) ⟨⟨_,_,rfl,?_,?_,ak _ _,ak _ _⟩,dx zB⟩
   ·exact zO p1 o1
   ·exact zO p2 o2
  by_cases n4:ss=4
  ·subst n4
   have eX:=F4.out rfl
   subst eX
   go_wp2_with fail
   go_region_held3 (fun w'=>hp w' w.heap.size=some (.cells (af c (.slice (some ⟨g,0,none⟩) c.cells.length q1) (.slice a2 c.words.length q2)) 31)∧hp w' (w.heap.size+1)=some (.cells (aa { h with seen:=4,wait:=t }) 49))
    (first|(simp [*,go_sem]))
    (first|((go_at_call 247;refine ax w zB fun bb=>?_;refine ax w0 zB fun bk=>?_;refine (cZ _ _ _).mono ?_;rintro _ w1 ⟨rfl,ah⟩;have aW:Below w.heap.size w w1:=bT bb ah;have ay:=ah.size;(try simp at ay);have zz:=q4 ah (b:=w.heap.size);(first|simp [go_sem,aA,aH,bz,dw,dJ,bZ,bq,aR] at zz|simp [go_sem] at zz|skip);(try clear aA bK bL aR);(try clear aH cB cK bq);(try clear bz di dz bZ);(try clear dw dV eD dJ);obtain ⟨aA,aH,bz,dw⟩:=zz;obtain ⟨bK,bL,aR⟩:=bO aA;obtain ⟨cB,cK,bq⟩:=bO aH;obtain ⟨di,dz,bZ⟩:=bO bz;obtain ⟨dV,eD,dJ⟩:=bO dw;have dG:Below w0.heap.size w0 w1:=bT bk ah;clear ah bb bk);have p1:=own_below p1 dG;have p2:=own_below p2 dG))
   go_wp2
   refine rE Tryz.results241 rfl (az c (.slice (some ⟨g,0,none⟩) c.cells.length q1) (.slice a2 c.words.length q2) tZ) rfl (aj { bM h ⟨4,e,t⟩ with pos:=7 } (by simp [go_sem, *] <;> first|rfl|simp [bM,anew,hci])) ⟨⟨_,_,rfl,?_,?_,ak _ _,ak _ _⟩,dx zB⟩
   ·exact zO p1 o1
   ·exact zO p2 o2
  by_cases n8:ss=8
  ·subst n8
   have eX:=F8.out rfl
   subst eX
   go_wp2_with fail
   go_region_held3 (fun w'=>hp w' w.heap.size=some (.cells (af c (.slice (some ⟨g,0,none⟩) c.cells.length q1) (.slice a2 c.words.length q2)) 31)∧hp w' (w.heap.size+1)=some (.cells (aa { h with seen:=8,wait:=t }) 49))
    (first|(simp [*,go_sem]))
    (first|((go_at_call 250;refine ax w zB fun bb=>?_;refine ax w0 zB fun bk=>?_;refine (AN.out _).mono ?_;rintro _ w1 ⟨rfl,ah⟩;have aW:Below w.heap.size w w1:=bT bb ah;have ay:=ah.size;(try simp at ay);have zz:=q4 ah (b:=w.heap.size);(first|simp [go_sem,aA,aH,bz,dw,dJ,bZ,bq,aR] at zz|simp [go_sem] at zz|skip);(try clear aA bK bL aR);(try clear aH cB cK bq);(try clear bz di dz bZ);(try clear dw dV eD dJ);obtain ⟨aA,aH,bz,dw⟩:=zz;obtain ⟨bK,bL,aR⟩:=bO aA;obtain ⟨cB,cK,bq⟩:=bO aH;obtain ⟨di,dz,bZ⟩:=bO bz;obtain ⟨dV,eD,dJ⟩:=bO dw;have dG:Below w0.heap.size w0 w1:=bT bk ah;clear ah bb bk);have p1:=own_below p1 dG;have p2:=own_below p2 dG))
   go_wp2
   refine rE Tryz.results241 rfl (az c (.slice (some ⟨g,0,none⟩) c.cells.length q1) (.slice a2 c.words.length q2) tZ) rfl (aj k0 (by simp [go_sem, *] <;> first|rfl|simp [bM,anew,hci])) ⟨⟨_,_,rfl,?_,?_,ak _ _,ak _ _⟩,dx zB⟩
   ·exact zO p1 o1
   ·exact zO p2 o2
  by_cases n10:ss=10
  ·subst n10
   have eX:=RN.out rfl
   subst eX
   go_wp2_with fail
   go_region_held3 (fun w'=>hp w' w.heap.size=some (.cells (af c (.slice (some ⟨g,0,none⟩) c.cells.length q1) (.slice a2 c.words.length q2)) 31)∧hp w' (w.heap.size+1)=some (.cells (aa { h with seen:=10,wait:=t }) 49))
    (first|(simp [*,go_sem]))
    (first|((go_at_call 250;refine ax w zB fun bb=>?_;refine ax w0 zB fun bk=>?_;refine (AN.out _).mono ?_;rintro _ w1 ⟨rfl,ah⟩;have aW:Below w.heap.size w w1:=bT bb ah;have ay:=ah.size;(try simp at ay);have zz:=q4 ah (b:=w.heap.size);(first|simp [go_sem,aA,aH,bz,dw,dJ,bZ,bq,aR] at zz|simp [go_sem] at zz|skip);(try clear aA bK bL aR);(try clear aH cB cK bq);(try clear bz di dz bZ);(try clear dw dV eD dJ);obtain ⟨aA,aH,bz,dw⟩:=zz;obtain ⟨bK,bL,aR⟩:=bO aA;obtain ⟨cB,cK,bq⟩:=bO aH;obtain ⟨di,dz,bZ⟩:=bO bz;obtain ⟨dV,eD,dJ⟩:=bO dw;have dG:Below w0.heap.size w0 w1:=bT bk ah;clear ah bb bk);have p1:=own_below p1 dG;have p2:=own_below p2 dG))
   go_wp2
   refine rE Tryz.results241 rfl (az c (.slice (some ⟨g,0,none⟩) c.cells.length q1) (.slice a2 c.words.length q2) tZ) rfl (aj k0 (by simp [go_sem, *] <;> first|rfl|simp [bM,anew,hci])) ⟨⟨_,_,rfl,?_,?_,ak _ _,ak _ _⟩,dx zB⟩
   ·exact zO p1 o1
   ·exact zO p2 o2
  have eX:=Fn.out n0 n1 n4 n8 n10
  have e0:(ss == 0)=false:=by simpa using n0
  have e1:(ss == 1)=false:=by simpa using n1
  have e4:(ss == 4)=false:=by simpa using n4
  have e8:(ss == 8)=false:=by simpa using n8
  have e10:(ss == 10)=false:=by simpa using n10
  obtain rfl:x=X:=eX.symm
  go_wp2_with fail
  refine (T.out _).mono ?_
  rintro _ w3 ⟨⟨y1,y2,rfl,aV,aX,dL,dI⟩,aO⟩
  have hO3:ik (Value.slice (some ⟨g,0,none⟩) c.cells.length q1).ownBlock (Value.slice a2 c.words.length q2).ownBlock w w3:=fu (dx zB) (dx aO)
  have df:=aO.size;(try simp at df);have zz:=q4 aO (b:=w.heap.size);(first|simp [go_sem,aA,aH,bz,dw,dJ,bZ,bq,aR] at zz|simp [go_sem] at zz|skip);(try clear aA bK bL aR);(try clear aH cB cK bq);(try clear bz di dz bZ);(try clear dw dV eD dJ);obtain ⟨aA,aH,bz,dw⟩:=zz;obtain ⟨bK,bL,aR⟩:=bO aA;obtain ⟨cB,cK,bq⟩:=bO aH;obtain ⟨di,dz,bZ⟩:=bO bz;obtain ⟨dV,eD,dJ⟩:=bO dw;clear aO
  obtain ⟨⟨aI,aJ⟩,dP,dQ⟩:=sO (w:=w) (w.heap.size+1+1+1+1) dL dI b1 b2;obtain ⟨ya,yp,rfl,_⟩:=aV.seg;obtain ⟨yb,yq,rfl,_⟩:=aX.seg
  go_wp2
  refine rE Tryz.results241 rfl (az x.1 (.slice ya x.1.cells.length yp) (.slice yb x.1.words.length yq) tY) rfl (aj x.2.1 tY) ⟨⟨_,_,rfl,?_,?_,dP,dQ⟩,by exact zN⟩
  ·exact zP aV aV aI
  ·exact zP aX aX aJ
 ·have hB:=hf.out.1
  have zh:=hf.out.2.2.1
  rw [show l 8=false from hn 8 rfl] at zh
  dsimp only [cond] at zh
  have zc:=hf.out.2.1
  go_simp
  refine hK.out (upd s 7 (.agg (aa h))) _ _ (by simp [ae] <;> rfl) (kC (kA (kX (fun _=>rfl) id)) hf.out)
 ·have hB:=hf.out.1
  go_simp
  refine hK.out (upd s 8 (.pointer (some ⟨w.heap.size,4,none⟩))) _ _ (by simp [ae] <;> rfl) (kC (kB (kX (fun _=>rfl) id)) hf.out)
 ·have e1:=((jC hf.out).2.2.1 (hd 1 rfl))
  have hB:=hf.out.1
  have zh:=hf.out.2.2.1
  rw [show l 8=false from hn 8 rfl] at zh
  dsimp only [cond] at zh
  have zc:=hf.out.2.1
  have q:=(bO zc).1 4
  go_simp
  refine hK.out (upd s 9 (.slice (some ⟨g,0,none⟩) c.cells.length q1)) _ _ (by simp [ae,e1] <;> rfl) (kC (kB (kA (kX (fun _=>rfl) id))) hf.out)
 ·have hB:=hf.out.1
  go_simp
  refine hK.out (upd s 10 (.pointer (some ⟨w.heap.size+1,3,none⟩))) _ _ (by simp [ae] <;> rfl) (kD (kX (fun _=>rfl) id) hf.out)
 ·have e3:=((jD hf.out).1 (hd 3 rfl))
  have hB:=hf.out.1
  have zh:=hf.out.2.2.1
  rw [show l 8=false from hn 8 rfl] at zh
  dsimp only [cond] at zh
  have zc:=hf.out.2.1
  have q:wx.cell? ⟨w.heap.size+1,3,none⟩=some (.int .i64 i):=by rw [← NI.out];exact (bO zh).1 3
  go_simp
  refine hK.out (upd s 11 (.int .i64 i)) _ _ (by simp [ae,e3] <;> rfl) (kD (kA (kX (fun _=>rfl) id)) hf.out)
 ·have e2:=((jC hf.out).2.2.2.1 (hd 2 rfl))
  have e4:=((jD hf.out).2.1 (hd 4 rfl))
  have hB:=hf.out.1
  go_simp
  refine hK.out (upd s 12 (.pointer (some ⟨g,i*3,none⟩))) _ _ (by simp [ae,e2,e4] <;> rfl) (kD (kB (kX (fun _=>rfl) id)) hf.out)
 ·have e5:=((jD hf.out).2.2.1 (hd 5 rfl))
  have hB:=hf.out.1
  have y0:=(hB.cell (p:=⟨g,i*3,none⟩) hlt).trans c0
  have y1:=(hB.cell (p:=⟨g,i*3+1,none⟩) hlt).trans c1
  have y2:=(hB.cell (p:=⟨g,i*3+2,none⟩) hlt).trans c2
  go_simp
  refine hK.out (upd s 13 (.agg #[.int .i64 ss,.int .i64 e,.int .i64 t])) _ _ (by simp [ae,e5] <;> rfl) (kD (kB (kA (kX (fun _=>rfl) id))) hf.out)
 ·have e0:=((jC hf.out).2.1 (hd 0 rfl))
  have e6:=((jD hf.out).2.2.2.1 (hd 6 rfl))
  have hB:=hf.out.1
  go_simp
  go_at_call 249
  refine (jm h ss e t _).mono ?_
  rintro _ wy ⟨rfl,hE⟩
  refine hK.out (upd s 14 (.agg (aa { h with seen:=ss,wait:=t }))) _ _ (by simp [ae,e0,e6] <;> rfl) (kX (bT hf.out.1 hE) (kX (dS hf.out.2.1 hE) (kX (dS hf.out.2.2.1 hE) (kX (dS hf.out.2.2.2.1 hE) (kX (dS hf.out.2.2.2.2.1 hE) (kC (kB (kA (fun _=>fun _=>rfl)))))))) hf.out)
 ·have e7:=((jC (jD hf.out)) (hd 7 rfl))
  have hB:=hf.out.1
  have zh:=hf.out.2.2.1
  rw [hl] at zh
  dsimp only [cond] at zh
  have zc:=hf.out.2.1
  go_simp
  refine hK.out (s) _ _ (by simp [ae,e7] <;> rfl) (kX (Fb hB tO) (kX ((aD tO).trans zc) (kX (fH zh) (kX ((aD tO).trans hf.out.2.2.2.1) (kX ((aD tO).trans hf.out.2.2.2.2.1) id)))) hf.out)
end
section
open Go.RowKit
attribute [local simp] aC
attribute [local go_sem ↓] aB aU aL bB aM bC aG aN au aF
attribute [local go_sem ↓] FL
def Es (x:St):St:=if x.2.2 then done x.1 x.2.1 else nothing
theorem BP {c:Ch} {i f t v:Int} (h:bn c i f t v=false):aY c i f t v=c:=by
 have e:lX (cellAt c i) f t v=cellAt c i:=by
  have h2:jT (cellAt c i).s (cellAt c i).e (cellAt c i).t f t v=false:=h
  simp [lX,sS,sU,h2]
 unfold aY setAt
 rw [e]
 unfold cellAt
 have:c.cells.set i.toNat (c.cells.getD i.toNat ⟨0,0,0⟩)=c.cells:=by
  apply List.ext_getElem?
  intro n
  rw [List.getElem?_set]
  by_cases hn:i.toNat=n
  ·subst hn
   by_cases hl:i.toNat<c.cells.length
   ·simp [hl]
   ·simp [hl,Nat.le_of_not_lt hl]
  ·simp [hn]
 rw [this]
theorem kr (c:Ch) (h:Ha):Es (c,h,true)=done c h:=rfl
theorem Na (c:Ch) (h:Ha) (hs:h.seen=0∨h.seen=1∨(h.seen≠0∧h.seen≠1)):Es (jr c h)=iK c h:=by
 have K:Es (nR c h)=if bn c h.cell h.seen 2 0 then done (aY c h.cell h.seen 2 0) (aP 1 0) else done (aY c h.cell h.seen 2 0) { h with pos:=3 }:=by
  unfold nR
  cases ht:bn c h.cell h.seen 2 0 with
  | true=>simp [kr]
  | false=>simp [kr,BP ht]
 have Wt:Es (MI c h)=done (eT c h 3 23 3).1 (eT c h 3 23 3).2:=by
  unfold MI xH eT
  by_cases hf:80≤c.words.length
  ·simp [hf,kr]
  ·cases ht:bn c h.cell h.seen 3 (c.words.length+1) with
   | true=>simp [hf,kr]
   | false=>simp [hf,kr,BP ht]
 unfold jr iK
 rcases hs with h0|h0|⟨h0,h1⟩
 ·have e0:(h.seen == 1)=false:=by simp [h0]
  have e1:(h.seen == 0)=true:=by simp [h0]
  have e2:(h.seen != 0 && h.seen != 1)=false:=by simp [h0]
  rw [e2]
  by_cases hx:h.cell<(if h.come<h.fin then h.fin else h.come)
  ·have hk:qL h=true:=by simp [qL,e1,hx]
   have hn:(h.seen == 0 && (decide (h.come≤h.cell) && decide (h.fin≤h.cell)))=false:=by
    rw [e1]
    simp
    split at hx <;> omega
   rw [hk,hn]
   simpa using K
  ·have hk:qL h=false:=by simp [qL,e0,hx]
   have hn:(h.seen == 0 && (decide (h.come≤h.cell) && decide (h.fin≤h.cell)))=true:=by
    rw [e1]
    simp
    split at hx <;> omega
   rw [hk,hn,e1]
   simpa using Wt
 ·have e1:(h.seen == 0)=false:=by simp [h0]
  have e2:(h.seen != 0 && h.seen != 1)=false:=by simp [h0]
  have hk:qL h=true:=by simp [qL,h0]
  rw [hk,e2,e1]
  simpa using K
 ·have e0:(h.seen == 1)=false:=by simpa using h1
  have e1:(h.seen == 0)=false:=by simpa using h0
  have e2:(h.seen != 0 && h.seen != 1)=true:=by simp [h0,h1]
  have hk:qL h=false:=by simp [qL,e0,e1]
  rw [hk,e2,e1]
  rfl
theorem qM (x:St) (h:x.2.2=true∨x=nothing):kP x=Es x:=by
 rcases h with h|h
 ·obtain ⟨c,y,ok⟩:=x
  cases h
  rfl
 ·subst h
  rfl
theorem Oi (c:Ch) (h:Ha):(jr c h).2.2=true∨jr c h=nothing:=by
 unfold jr nR MI xH
 repeat' split
 all_goals first|exact .inl rfl|exact .inr rfl
theorem PO (c:Ch) (h:Ha):(Dz c h).2.2=true∨Dz c h=nothing:=by
 unfold Dz
 split
 ·exact .inl rfl
 ·exact .inr rfl
theorem pE (c:Ch) (h:Ha) (v1 v2:Value) (lo:Nat) (w:World) (h1:ag w lo v1 c.cells) (h2:ai w lo v2 c.words) :
  (∀ (hk:(h.code != 1)=true),Calls Tryz.prog 237 #[.agg (af c v1 v2),.agg (aa h)] w fun r w'=>cz w w' lo v1 v2 (nothing) r) ∧
  (∀ (hk:(h.code != 1)=false) (hp:(9:Int)≤h.pos),Calls Tryz.prog 237 #[.agg (af c v1 v2),.agg (aa h)] w fun r w'=>cz w w' lo v1 v2 (nothing) r):=by
 constructor
 case' left =>
  intro hk
  have mA:Hid (0=0):=rfl
 case' right =>
  intro hk hp
  have mB:Hid (0=0):=rfl
 all_goals
  have T:=Lib.hid fun W=>fw W lo v1 v2
  have TT:=Lib.hid fun w=>su w
  generalize nothing=x at *
  obtain ⟨a1,q1,a2,q2,rfl,rfl,o1,o2,b1,b2,m1,m2,m10,m20,m11,m21,m12,m22,m13,m23⟩:=Cu h1 h2
  clear h1 h2
  go_enter Tryz.func237,Tryz.ntmps237
  go_wp2_with fail;refine ax w zB fun bb=>?_;refine (TT.out _).mono ?_;rintro _ w1 ⟨rfl,ah⟩;obtain ⟨aW,ay,zz⟩:=dZ bb ah (b:=w.heap.size);(try simp at ay);(try simp [go_sem] at zz);replace bX:=dF zz;clear zz;have dG:=aW;clear ah bb
  unfold MZ
  go_wp2_with fail
  refine (T.out _).mono ?_
  rintro _ w3 ⟨⟨y1,y2,rfl,aV,aX,dL,dI⟩,aO⟩
  have hO:=dx (a:=(Value.slice a1 c.cells.length q1).ownBlock) (b:=(Value.slice a2 c.words.length q2).ownBlock) aO
  have hO3:ik (Value.slice a1 c.cells.length q1).ownBlock (Value.slice a2 c.words.length q2).ownBlock w w3:=fu (dx zB) hO
  have df:=hO.2.2.2.1;(try (simp at df));have zz:=vE hO (b:=w.heap.size);(first|simp [go_sem,bX] at zz|simp [go_sem] at zz|skip);replace bX:=dF zz;clear zz
  clear hO aO
  obtain ⟨⟨aI,aJ⟩,dP,dQ⟩:=sO (w:=w) (w.heap.size+1+1+1+1) dL dI b1 b2;obtain ⟨ya,yp,rfl,_⟩:=aV.seg;obtain ⟨yb,yq,rfl,_⟩:=aX.seg
  go_wp2
  refine rE Tryz.results237 rfl (az x.1 (.slice ya x.1.cells.length yp) (.slice yb x.1.words.length yq) tY) rfl (aj x.2.1 tY) ⟨⟨_,_,rfl,?_,?_,dP,dQ⟩,by exact zN⟩
  ·exact zP aV aV aI
  ·exact zP aX aX aJ
theorem zm (c:Ch) (h:Ha) (v1 v2:Value) (lo:Nat) (w:World) (h1:ag w lo v1 c.cells) (h2:ai w lo v2 c.words) (hk:(h.code != 1)=true) :
  Calls Tryz.prog 237 #[.agg (af c v1 v2),.agg (aa h)] w fun r w'=>cz w w' lo v1 v2 (nothing) r:=(pE c h v1 v2 lo w h1 h2).1 hk
theorem wu (c:Ch) (h:Ha) (v1 v2:Value) (lo:Nat) (w:World) (h1:ag w lo v1 c.cells) (h2:ai w lo v2 c.words) (hk:(h.code != 1)=false) (hp:(9:Int)≤h.pos) :
  Calls Tryz.prog 237 #[.agg (af c v1 v2),.agg (aa h)] w fun r w'=>cz w w' lo v1 v2 (nothing) r:=(pE c h v1 v2 lo w h1 h2).2 hk hp
theorem wz (c:Ch) (h:Ha) (hc:aK c=true) (hh:bW h=true):∃ x:St,aZ c h=kP x∧∀ (v1 v2:Value) (lo:Nat) (W:World),ag W lo v1 c.cells→ai W lo v2 c.words→lo≤W.heap.size→Calls Tryz.prog 237 #[.agg (af c v1 v2),.agg (aa h)] W fun r w'=>cz W w' lo v1 v2 x r:=by
 cases hk:(h.code != 1) with
 | true =>
  have hk2:¬ h.code=1:=by simpa using hk
  exact ⟨nothing,by simp [aZ,bf,hk2];rfl,fun v1 v2 lo W o1 o2 _=>zm c h v1 v2 lo W o1 o2 hk⟩
 | false =>
  have hk1:h.code=1:=by simpa using hk
  have hr:0≤h.pos∧h.pos≠0∧dO h.code h.elem=true:=by
   have:=hh
   simp only [bW,qo,Bool.and_eq_true,kY] at this
   by_cases h0:h.pos=0
   ·simp [h0,qW,hk1] at this
   ·simp [h0] at this
    exact ⟨this.1.1.1,h0,this.1.2⟩
  obtain ⟨hr0,hr1,hcall⟩:=hr
  obtain ⟨hc0,RJ⟩:=fM hh
  have hc1:h.cell<c.cells.length:=by have:=(jh hc).1;omega
  by_cases VP:9≤h.pos
  ·have hno:bf c h 1 8 1=false:=by
    have:dm h.pos 1 8=false:=by simp [dm];omega
    simp [bf,this]
   exact ⟨nothing,by simp [aZ,hno];rfl,fun v1 v2 lo W o1 o2 _=>wu c h v1 v2 lo W o1 o2 hk VP⟩
  have hok:bf c h 1 8 1=true:=by
   have:dm h.pos 1 8=true:=by simp [dm];omega
   simp [bf,hc,hh,this,hk1]
  have hps:h.pos=1∨h.pos=2∨h.pos=3∨h.pos=4∨h.pos=5∨h.pos=6∨h.pos=7∨h.pos=8:=by omega
  rcases hps with hp|hp|hp|hp|hp|hp|hp|hp
  ·by_cases hs:c.sent=40
   ·skip
    refine ⟨(c,aP 4 0,true),?_,fun v1 v2 lo W o1 o2 hl=>fP 239 1 ((c,aP 4 0,true)) c h v1 v2 lo W o1 o2 hl hk1 hp tO rfl (fun args w=>by simp [go_sem]) (fun v1 v2 lo W o1 o2 hl=>y7 c h v1 v2 lo W o1 o2 hs)⟩
    rw [qM _ (.inl rfl)]
    simp [aZ,hok,hp,wV,hs,kr]
   ·skip
    refine ⟨({ c with sent:=c.sent+1 },{ h with cell:=c.sent,pos:=2 },true),?_,fun v1 v2 lo W o1 o2 hl=>fP 239 1 (({ c with sent:=c.sent+1 },{ h with cell:=c.sent,pos:=2 },true)) c h v1 v2 lo W o1 o2 hl hk1 hp tO rfl (fun args w=>by simp [go_sem]) (fun v1 v2 lo W o1 o2 hl=>y9 c h v1 v2 lo W o1 o2 hs (xJ hc))⟩
    rw [qM _ (.inl rfl)]
    simp [aZ,hok,hp,wV,hs,kr]
  ·skip
   refine ⟨(nk c h.cell h.elem,{ h with pos:=3 },true),?_,fun v1 v2 lo W o1 o2 hl=>fP 240 2 ((nk c h.cell h.elem,{ h with pos:=3 },true)) c h v1 v2 lo W o1 o2 hl hk1 hp tO rfl (fun args w=>by simp [go_sem]) (fun v1 v2 lo W o1 o2 hl=>Bp c h v1 v2 lo W o1 o2 hc0 hc1)⟩
   rw [qM _ (.inl rfl)]
   simp [aZ,hok,hp,Fh,kr]
  ·have el:aZ c h=Es (Dz c h):=by
    simp only [aZ,hok,hp,Ab]
    cases hl:(je c h).2 <;> simp [Dz,hl,Es,nothing]
   refine ⟨Dz c h,el.trans (qM _ (PO c h)).symm,?_⟩
   exact fun v1 v2 lo W o1 o2 hl=>fP 241 3 (Dz c h) c h v1 v2 lo W o1 o2 hl hk1 hp tO rfl (fun args w=>by simp [go_sem]) (fun v1 v2 lo W o1 o2 hl=>zl c h v1 v2 lo W o1 o2 hc0 hc1 hcall)
  ·skip
   refine ⟨(c,{ h with fin:=c.fin,pos:=5 },true),?_,fun v1 v2 lo W o1 o2 hl=>fP 242 4 ((c,{ h with fin:=c.fin,pos:=5 },true)) c h v1 v2 lo W o1 o2 hl hk1 hp tO rfl (fun args w=>by simp [go_sem]) (fun v1 v2 lo W o1 o2 hl=>Bg c h v1 v2 lo W o1 o2)⟩
   rw [qM _ (.inl rfl)]
   simp [aZ,hok,hp,kr]
  ·skip
   refine ⟨(c,{ h with come:=c.got,pos:=6 },true),?_,fun v1 v2 lo W o1 o2 hl=>fP 243 5 ((c,{ h with come:=c.got,pos:=6 },true)) c h v1 v2 lo W o1 o2 hl hk1 hp tO rfl (fun args w=>by simp [go_sem]) (fun v1 v2 lo W o1 o2 hl=>yz c h v1 v2 lo W o1 o2)⟩
   rw [qM _ (.inl rfl)]
   simp [aZ,hok,hp,kr]
  ·skip
   refine ⟨jr c h,?_,fun v1 v2 lo W o1 o2 hl=>fP 244 6 (jr c h) c h v1 v2 lo W o1 o2 hl hk1 hp tO rfl (fun args w=>by simp [go_sem]) (fun v1 v2 lo W o1 o2 hl=>BN c h v1 v2 lo W o1 o2 hc0 hc1 hc hl)⟩
   rw [qM _ (Oi c h),Na c h tO]
   simp [aZ,hok,hp]
  ·skip
   refine ⟨NH c h,?_,fun v1 v2 lo W o1 o2 hl=>fP 245 7 (NH c h) c h v1 v2 lo W o1 o2 hl hk1 hp tO rfl (fun args w=>by simp [go_sem]) (fun v1 v2 lo W o1 o2 hl=>yG c h v1 v2 lo W o1 o2 hc hl hcall)⟩
   rw [qM _ (by unfold NH zU;split <;> exact .inl rfl)]
   unfold NH zU
   cases ht:fo c h.wait 1 with
   | true=>simp [aZ,hok,hp,lY,ht,kr]
   | false=>simp [aZ,hok,hp,lY,ht,kr,nZ ht]
  ·skip
   refine ⟨(bP c h.cell 7,aP 1 0,true),?_,fun v1 v2 lo W o1 o2 hl=>fP 246 8 ((bP c h.cell 7,aP 1 0,true)) c h v1 v2 lo W o1 o2 hl hk1 hp tO rfl (fun args w=>by simp [go_sem]) (fun v1 v2 lo W o1 o2 hl=>yA c h v1 v2 lo W o1 o2 hc0 hc1)⟩
   rw [qM _ (.inl rfl)]
   simp [aZ,hok,hp,kr]
theorem wB (c:Ch) (h:Ha) (a b:Option Addr) (p q:Nat) (w:World) (h1:eY w w.heap.size a c.cells) (z1:a=none→p=0) (h2:eQ w w.heap.size b c.words) (z2:b=none→q=0) (l1:c.cells.length≤maxLen) (l2:c.words.length≤maxLen) :
  Calls Tryz.prog 235 #[.agg (af c (.slice a c.cells.length p) (.slice b c.words.length q)),.agg (aa h)] w fun r w'=>bV w w' (aZ c h) r:=by
 have K:∀ (w:World),eY w w.heap.size a c.cells→(a=none→p=0)→eQ w w.heap.size b c.words→(b=none→q=0)→Calls Tryz.prog 236 #[.func (.func 237) #[] #[],.agg (af c (.slice a c.cells.length p) (.slice b c.words.length q)),.agg (aa h)] w fun r w'=>bV w w' (aZ c h) r:=by
  intro w h1 z1 h2 z2
  cases hc:aK c with
  | false =>
   rw [show aZ c h=nothing by simp [aZ,bf,hc]]
   exact mh _ c h a b p q w h1 z1 h2 z2 l1 l2 hc
  | true =>
   cases hh:bW h with
   | false =>
    rw [show aZ c h=nothing by simp [aZ,bf,hh]]
    exact mi _ c h a b p q w h1 z1 h2 z2 l1 l2 hc hh
   | true =>
    obtain ⟨x,e,HT⟩:=wz c h hc hh
    rw [e]
    exact mg _ x c h a b p q w h1 z1 h2 z2 hc hh (fun args w=>by simp [go_sem]) HT
 generalize aZ c h=x at *
 have T:=Lib.hid K
 have H1:=Lib.hid h1
 have H2:=Lib.hid h2
 have Z1:=Lib.hid z1
 have Z2:=Lib.hid z2
 clear h1 h2 z1 z2 K
 have d1:∀ j,(Value.slice none 0 0).ownBlock=some j→w.heap.size+1+1+1+1≤j:=fun j hj=>by cases hj
 have d2:=d1
 go_enter Tryz.func235,Tryz.ntmps235
 go_wp2_with fail;refine ax w zB fun bb=>?_;refine (T.out _ (aT H1 bb) Z1.out (aT H2 bb) Z2.out).mono ?_;rintro _ w9 ⟨⟨y1,y2,rfl,aV,aX,dL,dI⟩,eG⟩;obtain ⟨sI,jc,zz⟩:=dZ bb eG (b:=w.heap.size);(try simp at jc);(try simp [go_sem] at zz);replace bX:=dF zz;clear zz eG bb
 replace aV:ag w9 w.heap.size y1 x.1.cells:=av aV (by simp;omega)
 replace aX:ai w9 w.heap.size y2 x.1.words:=av aX (by simp;omega)
 obtain ⟨⟨aI,aJ⟩,dP,dQ⟩:=lL (w:=w) (w.heap.size+1+1+1+1) dL dI d1 d2;obtain ⟨ya,yp,rfl,_⟩:=aV.seg;obtain ⟨yb,yq,rfl,_⟩:=aX.seg
 go_wp2
 refine rE Tryz.results235 rfl (az x.1 (.slice ya x.1.cells.length yp) (.slice yb x.1.words.length yq) tY) rfl (aj x.2.1 tY) ⟨⟨_,_,rfl,?_,?_,dP,dQ⟩,by exact zB⟩
 ·exact zP aV aV aI
 ·exact zP aX aX aJ
end
section
open Go.RowKit
attribute [local simp] aC
attribute [local go_sem ↓] aB aU aL bB aM bC aG aN au aF
theorem Hg (c:Ch) (h:Ha) (a b:Option Addr) (p q:Nat) (w:World) (h1:eY w w.heap.size a c.cells) (z1:a=none→p=0) (h2:eQ w w.heap.size b c.words) (z2:b=none→q=0) (l1:c.cells.length≤maxLen) (l2:c.words.length≤maxLen) :
  Calls Tryz.prog 105 #[.agg (af c (.slice a c.cells.length p) (.slice b c.words.length q)),.agg (aa h)] w fun r w'=>bV w w' (iC c h) r:=by
 have hp:h.pos≤0∨(1≤h.pos∧h.pos≤8)∨(9≤h.pos∧h.pos≤15)∨(16≤h.pos∧h.pos≤22)∨(23≤h.pos∧h.pos≤25)∨26≤h.pos:=by omega
 rcases hp with hp|hp|hp|hp|hp|hp
 ·rw [BL c h (.inl hp)];exact GZ c h a b p q w h1 z1 h2 z2 hp
 ·have e:iC c h=aZ c h:=by unfold iC;rw [show dm h.pos 1 8=true by simp [dm];omega];rfl
  rw [e]
  exact Eh _ c h a b p q w h1 z1 h2 z2 (fun a b p q w h1 z1 h2 z2=>wB c h a b p q w h1 z1 h2 z2 l1 l2) hp
 ·have e:iC c h=dM c h:=by unfold iC;rw [show dm h.pos 1 8=false by simp [dm];omega,show dm h.pos 9 15=true by simp [dm];omega];rfl
  rw [e]
  exact Ei _ c h a b p q w h1 z1 h2 z2 (fun a b p q w h1 z1 h2 z2=>pg c h a b p q w h1 z1 h2 z2 l1 l2) hp
 ·have e:iC c h=dn c h:=by unfold iC;rw [show dm h.pos 1 8=false by simp [dm];omega,show dm h.pos 9 15=false by simp [dm];omega,show dm h.pos 16 22=true by simp [dm];omega];rfl
  rw [e]
  exact Ej _ c h a b p q w h1 z1 h2 z2 (fun a b p q w h1 z1 h2 z2=>pz c h a b p q w h1 z1 h2 z2 l1 l2) hp
 ·have e:iC c h=bU c h:=by unfold iC;rw [show dm h.pos 1 8=false by simp [dm];omega,show dm h.pos 9 15=false by simp [dm];omega,show dm h.pos 16 22=false by simp [dm];omega];rfl
  rw [e]
  exact El _ c h a b p q w h1 z1 h2 z2 (fun a b p q w h1 z1 h2 z2=>p8 c h a b p q w h1 z1 h2 z2 l1 l2) hp
 ·rw [BL c h (.inr hp)];exact Hd c h a b p q w h1 z1 h2 z2 hp
end
section
def NK (x:Wo) (who:Int) (h:Ha):De:=⟨who,(dH x who).code,(dH x who).elem,(dH x who).beg,x.now+1,h.reply,h.out⟩
def o5 (x:Wo) (who:Int) (s:St):Wo × Bool :=
 if !s.2.2 || x.now == 20000 then (x,false)
 else if s.2.1.pos == 0 && x.deals.length == 1000 then (x,false)
 else ({ jl x who s.2.1 with now:=x.now+1,ch:=s.1,deals:=if s.2.1.pos == 0 then x.deals ++ [NK x who s.2.1] else x.deals },true)
def o6 (x:Wo) (who:Int):Wo × Bool:=o5 x who (iC x.ch (dH x who))
def lN (f:Wo→Wo × Bool):Nat→Wo→Wo × Nat
 | 0,x=>(x,0)
 | n+1,x=>if (f x).2 then ((lN f n (f x).1).1,(lN f n (f x).1).2+1) else ((f x).1,0)
def gW (x:Wo) (who most:Int):Wo × Int :=
 if bJ x && qZ x who then (if dm most 0 20000 then ((lN (fun y=>o6 y who) most.toNat x).1,(lN (fun y=>o6 y who) most.toNat x).2) else (x,-1)) else (Wo.zero,-1)
theorem Hl (x:Wo) (who:Int):(o6 x who).1.hands.length=x.hands.length:=by
 unfold o6 o5
 split
 ·rfl
 ·split
  ·rfl
  ·simp [jl]
end
end Go.Proofs.YtffhjmepfojhnaaGreat
