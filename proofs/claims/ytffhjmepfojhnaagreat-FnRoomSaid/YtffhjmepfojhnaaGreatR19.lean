/-
  Turning a cell in chapter 7 of the reference model, on hands and channels that are kept whole; lists lie in memory and hold at most 2 ^ 40 elements.
-/
import Derived.Test.YtffhjmepfojhnaaGreatR01
import Derived.Test.YtffhjmepfojhnaaGreatR13
import Derived.Test.YtffhjmepfojhnaaGreatR17
set_option maxRecDepth 100000
set_option maxHeartbeats 4000000
set_option linter.unusedSimpArgs false
set_option linter.unusedVariables false
namespace Go.Proofs.YtffhjmepfojhnaaGreat
section
open Go.RowKit
attribute [local simp] aC
attribute [local go_sem ↓] aB aU aL bB aM bC aG aN au aF
theorem xI (c:Ch) (h:Ha) (tq wt:Int) (thn:Ha) (v1 v2:Value) (lo:Nat) (w:World) (h1:ag w lo v1 c.cells) (h2:ai w lo v2 c.words) (hc0:0≤h.cell) (hc1:h.cell<c.cells.length) :
    (∀ (ht:bn c h.cell h.seen tq wt=true),Calls Tryz.prog 215 #[.agg (af c v1 v2),.agg (aa h),.int .i64 tq,.int .i64 wt,.agg (aa thn)] w fun r w'=>cz w w' lo v1 v2 (iA c h tq wt thn) r) ∧
    (∀ (ht:bn c h.cell h.seen tq wt=false),Calls Tryz.prog 215 #[.agg (af c v1 v2),.agg (aa h),.int .i64 tq,.int .i64 wt,.agg (aa thn)] w fun r w'=>cz w w' lo v1 v2 (iA c h tq wt thn) r):=by
  constructor
  case' left =>
    intro ht
    have mA:Hid (0=0):=rfl
  case' right =>
    intro ht
    have mB:Hid (0=0):=rfl
  all_goals
    obtain ⟨i,hci⟩:∃ i:Nat,h.cell=(i:Int):=⟨h.cell.toNat,by omega⟩
    have hi:i<c.cells.length:=by omega
    first
    | (replace mA:=mA
       have ht2:bn c i h.seen tq wt=true:=by rw [← ht];simp [*]
       have e:iA c h tq wt thn=done (aY c i h.seen tq wt) (thn):=by simp [iA,hci,ht2])
    | (replace mB:=mB
       have ht2:bn c i h.seen tq wt=false:=by rw [← ht];simp [*]
       have e:iA c h tq wt thn=done (aY c i h.seen tq wt) ({ h with pos:=10,cell:=(i:Int) }):=by simp [iA,hci,ht2])
    rw [e]
    have T:=Lib.hid fun W a b=>iW c i h.seen tq wt v1 v2 lo W a b hi
    first
    | (replace mA:=mA
       have D:=Lib.hid fun W=>bE (aY c i h.seen tq wt) (thn) v1 v2 lo W
       generalize done (aY c i h.seen tq wt) (thn)=x at *)
    | (replace mB:=mB
       have D:=Lib.hid fun W=>bE (aY c i h.seen tq wt) ({ h with pos:=10,cell:=(i:Int) }) v1 v2 lo W
       generalize done (aY c i h.seen tq wt) ({ h with pos:=10,cell:=(i:Int) })=x at *)
    rw [ht2] at T
    have b1:=jF h1
    have b2:=jF h2
    have m1:=mG b1
    have m2:=mG b2
    have m10:=m1 (w.heap.size) tO
    have m20:=m2 (w.heap.size) tO
    have m11:=m1 (w.heap.size+1) tO
    have m21:=m2 (w.heap.size+1) tO
    have m12:=m1 (w.heap.size+1+1) tO
    have m22:=m2 (w.heap.size+1+1) tO
    have m13:=m1 (w.heap.size+1+1+1) tO
    have m23:=m2 (w.heap.size+1+1+1) tO
    have m14:=m1 (w.heap.size+1+1+1+1) tO
    have m24:=m2 (w.heap.size+1+1+1+1) tO
    have o1:=h1
    have o2:=h2
    obtain ⟨a1,q1,e1,_⟩:=h1.seg
    obtain ⟨a2,q2,e2,_⟩:=h2.seg
    subst e1 e2
    clear h1 h2 e ht
    go_enter Tryz.func215,Tryz.ntmps215
    go_wp2_with fail;refine (T.out _ (zO o1 o1) (zO o2 o2)).mono ?_;rintro _ w1 ⟨rfl,p1,p2,hgw1⟩;have ay:=hgw1.size;(try (simp at ay));have zz:=Tv hgw1 (b:=w.heap.size);(try simp [go_sem] at zz);replace bX:=jL zz;clear zz;have jZ:=FV (w:=w) zB hgw1;clear hgw1
    have vw:ik (Value.slice a1 c.cells.length q1).ownBlock (Value.slice a2 c.words.length q2).ownBlock w w1:=lW jZ
    obtain ⟨k0,k1,k2,k3⟩:=kZ (a:=w.heap.size) (b:=w1.heap.size)
    have k4:w.heap.size+1+1+1+1<w1.heap.size:=by omega
    have r1:ag w1 lo (.slice a1 c.cells.length q1) (aY c i h.seen tq wt).cells:=p1
    have r2:ai w1 lo (.slice a2 c.words.length q2) (aY c i h.seen tq wt).words:=p2
    go_wp2_with fail
    refine (D.out _ (zO r1 o1) (zO r2 o2)).mono ?_
    rintro _ w3 ⟨⟨y1,y2,rfl,aV,aX,dL,dI⟩,aO⟩
    have hO3:ik (Value.slice a1 c.cells.length q1).ownBlock (Value.slice a2 c.words.length q2).ownBlock w w3:=fu zN (dx aO)
    have df:=aO.size;(try simp at df);have zz:=Tu aO (b:=w.heap.size);(first|simp [go_sem,bX,k0,k1,k2,k3,k4] at zz|simp [go_sem] at zz|skip);replace bX:=jL zz;clear zz aO
    obtain ⟨⟨aI,aJ⟩,dP,dQ⟩:=sO (w:=w) (w.heap.size+1+1+1+1+1) dL dI b1 b2;obtain ⟨ya,yp,rfl,_⟩:=aV.seg;obtain ⟨yb,yq,rfl,_⟩:=aX.seg
    go_wp2
    refine rE Tryz.results215 rfl (az x.1 (.slice ya x.1.cells.length yp) (.slice yb x.1.words.length yq) tY) rfl (aj x.2.1 tY) ⟨⟨_,_,rfl,?_,?_,dP,dQ⟩,by exact zN⟩
    · exact zP aV aV aI
    · exact zP aX aX aJ
theorem JU (c:Ch) (h:Ha) (tq wt:Int) (thn:Ha) (v1 v2:Value) (lo:Nat) (w:World) (h1:ag w lo v1 c.cells) (h2:ai w lo v2 c.words) (hc0:0≤h.cell) (hc1:h.cell<c.cells.length) (ht:bn c h.cell h.seen tq wt=true) :
    Calls Tryz.prog 215 #[.agg (af c v1 v2),.agg (aa h),.int .i64 tq,.int .i64 wt,.agg (aa thn)] w fun r w'=>cz w w' lo v1 v2 (iA c h tq wt thn) r:=(xI c h tq wt thn v1 v2 lo w h1 h2 hc0 hc1).1 ht
theorem JV (c:Ch) (h:Ha) (tq wt:Int) (thn:Ha) (v1 v2:Value) (lo:Nat) (w:World) (h1:ag w lo v1 c.cells) (h2:ai w lo v2 c.words) (hc0:0≤h.cell) (hc1:h.cell<c.cells.length) (ht:bn c h.cell h.seen tq wt=false) :
    Calls Tryz.prog 215 #[.agg (af c v1 v2),.agg (aa h),.int .i64 tq,.int .i64 wt,.agg (aa thn)] w fun r w'=>cz w w' lo v1 v2 (iA c h tq wt thn) r:=(xI c h tq wt thn v1 v2 lo w h1 h2 hc0 hc1).2 ht
theorem qd (c:Ch) (h:Ha) (tq wt:Int) (thn:Ha) (v1 v2:Value) (lo:Nat) (w:World) (h1:ag w lo v1 c.cells) (h2:ai w lo v2 c.words) (hc0:0≤h.cell) (hc1:h.cell<c.cells.length) :
    Calls Tryz.prog 215 #[.agg (af c v1 v2),.agg (aa h),.int .i64 tq,.int .i64 wt,.agg (aa thn)] w fun r w'=>cz w w' lo v1 v2 (iA c h tq wt thn) r:=by
  cases ht:bn c h.cell h.seen tq wt with
  | true=>exact JU c h tq wt thn v1 v2 lo w h1 h2 hc0 hc1 ht
  | false=>exact JV c h tq wt thn v1 v2 lo w h1 h2 hc0 hc1 ht
end
section
open Go.RowKit
attribute [local simp] aC
attribute [local go_sem ↓] aB aU aL bB aM bC aG aN au aF
theorem JW (c:Ch) (h:Ha) (v1 v2:Value) (lo:Nat) (w:World) (h1:ag w lo v1 c.cells) (h2:ai w lo v2 c.words) (hc0:0≤h.cell) (hc1:h.cell<c.cells.length) (hs:h.seen=2) :
  cu 205 c h v1 v2 lo w (fG c h):=by
 have e:fG c h=iA c h 7 0 (dR h 0):=by simp [fG,hs]
 rw [e]
 have K:=Lib.hid fun W a b=>qd c h 7 0 (dR h 0) v1 v2 lo W a b hc0 hc1
 generalize iA c h 7 0 (dR h 0)=x at *
 have b1:=jF h1
 have b2:=jF h2
 have m1:=mG b1
 have m2:=mG b2
 have m10:=m1 (w.heap.size) tO
 have m20:=m2 (w.heap.size) tO
 have m11:=m1 (w.heap.size+1) tO
 have m21:=m2 (w.heap.size+1) tO
 have m12:=m1 (w.heap.size+1+1) tO
 have m22:=m2 (w.heap.size+1+1) tO
 have m13:=m1 (w.heap.size+1+1+1) tO
 have m23:=m2 (w.heap.size+1+1+1) tO
 have o1:=h1
 have o2:=h2
 obtain ⟨a1,q1,e1,_⟩:=h1.seg
 obtain ⟨a2,q2,e2,_⟩:=h2.seg
 subst e1 e2
 clear h1 h2 e
 go_enter Tryz.func205,Tryz.ntmps205
 go_wp2_with fail
 go_region_held3 (fun w'=>hp w' w.heap.size=some (.cells (af c (.slice a1 c.cells.length q1) (.slice a2 c.words.length q2)) 31)∧hp w' (w.heap.size+1)=some (.cells (aa h) 49))
  (first|(simp [*,go_sem]))
  (first|((go_at_call 206;refine ax w zB fun bb=>?_;refine (pY _ _ _).mono ?_;rintro _ w1 ⟨rfl,ah⟩;obtain ⟨aW,ay,zz⟩:=dZ bb ah (b:=w.heap.size);(try simp at ay);(try simp [go_sem] at zz);replace bX:=dF zz;clear zz;have dG:=aW;clear ah bb);have p1:=own_below o1 aW;have p2:=own_below o2 aW;have vw:ik (Value.slice a1 c.cells.length q1).ownBlock (Value.slice a2 c.words.length q2).ownBlock w w1:=dx aW)|(go_at_call 215;refine (K.out _ (zO p1 p1) (zO p2 p2)).mono ?_;rintro _ w3 ⟨⟨y1,y2,rfl,aV,aX,dL,dI⟩,hO⟩;have df:=hO.2.2.2.1;(try (simp at df));have zz:=vE hO (b:=w.heap.size);(first|simp [go_sem,bX] at zz|simp [go_sem] at zz|skip);replace bX:=dF zz;clear zz;have hO3:ik (Value.slice a1 c.cells.length q1).ownBlock (Value.slice a2 c.words.length q2).ownBlock w w3:=fu zN hO;clear hO;obtain ⟨⟨aI,aJ⟩,dP,dQ⟩:=sO (w:=w) (w.heap.size+1+1+1+1) dL dI b1 b2;obtain ⟨ya,yp,rfl,_⟩:=aV.seg;obtain ⟨yb,yq,rfl,_⟩:=aX.seg))
 all_goals go_wp2
 all_goals (refine rE Tryz.results205 rfl (az x.1 (.slice ya x.1.cells.length yp) (.slice yb x.1.words.length yq) tY) rfl (aj x.2.1 tY) ⟨⟨_,_,rfl,?_,?_,dP,dQ⟩,by exact zN⟩)
 all_goals (first|exact zP aV aV aI|skip)
 all_goals (first|exact zP aX aX aJ|skip)
theorem uE (c:Ch) (h:Ha) (v1 v2:Value) (lo:Nat) (w:World) (h1:ag w lo v1 c.cells) (h2:ai w lo v2 c.words) (hc0:0≤h.cell) (hc1:h.cell<c.cells.length) (hx:h.cell<h.come) (PH:h.seen=0∨h.seen=1) :
  cu 205 c h v1 v2 lo w (fG c h):=by
 rcases PH with hs|hs
 all_goals
  have e:fG c h=iA c h 8 0 (dR h 2):=by simp [fG,hs,hx]
  rw [e]
  have K:=Lib.hid fun W a b=>qd c h 8 0 (dR h 2) v1 v2 lo W a b hc0 hc1
  generalize iA c h 8 0 (dR h 2)=x at *
  have b1:=jF h1
  have b2:=jF h2
  have m1:=mG b1
  have m2:=mG b2
  have m10:=m1 (w.heap.size) tO
  have m20:=m2 (w.heap.size) tO
  have m11:=m1 (w.heap.size+1) tO
  have m21:=m2 (w.heap.size+1) tO
  have m12:=m1 (w.heap.size+1+1) tO
  have m22:=m2 (w.heap.size+1+1) tO
  have m13:=m1 (w.heap.size+1+1+1) tO
  have m23:=m2 (w.heap.size+1+1+1) tO
  have o1:=h1
  have o2:=h2
  obtain ⟨a1,q1,e1,_⟩:=h1.seg
  obtain ⟨a2,q2,e2,_⟩:=h2.seg
  subst e1 e2
  clear h1 h2 e
  go_enter Tryz.func205,Tryz.ntmps205
  go_wp2_with fail
  go_region_held3 (fun w'=>hp w' w.heap.size=some (.cells (af c (.slice a1 c.cells.length q1) (.slice a2 c.words.length q2)) 31)∧hp w' (w.heap.size+1)=some (.cells (aa h) 49))
   (first|(simp [*,go_sem]))
   (first|((go_at_call 206;refine ax w zB fun bb=>?_;refine (pY _ _ _).mono ?_;rintro _ w1 ⟨rfl,ah⟩;obtain ⟨aW,ay,zz⟩:=dZ bb ah (b:=w.heap.size);(try simp at ay);(try simp [go_sem] at zz);replace bX:=dF zz;clear zz;have dG:=aW;clear ah bb);have p1:=own_below o1 aW;have p2:=own_below o2 aW;have vw:ik (Value.slice a1 c.cells.length q1).ownBlock (Value.slice a2 c.words.length q2).ownBlock w w1:=dx aW)|(go_at_call 215;refine (K.out _ (zO p1 p1) (zO p2 p2)).mono ?_;rintro _ w3 ⟨⟨y1,y2,rfl,aV,aX,dL,dI⟩,hO⟩;have df:=hO.2.2.2.1;(try (simp at df));have zz:=vE hO (b:=w.heap.size);(first|simp [go_sem,bX] at zz|simp [go_sem] at zz|skip);replace bX:=dF zz;clear zz;have hO3:ik (Value.slice a1 c.cells.length q1).ownBlock (Value.slice a2 c.words.length q2).ownBlock w w3:=fu zN hO;clear hO;obtain ⟨⟨aI,aJ⟩,dP,dQ⟩:=sO (w:=w) (w.heap.size+1+1+1+1) dL dI b1 b2;obtain ⟨ya,yp,rfl,_⟩:=aV.seg;obtain ⟨yb,yq,rfl,_⟩:=aX.seg))
  all_goals go_wp2
  all_goals (refine rE Tryz.results205 rfl (az x.1 (.slice ya x.1.cells.length yp) (.slice yb x.1.words.length yq) tY) rfl (aj x.2.1 tY) ⟨⟨_,_,rfl,?_,?_,dP,dQ⟩,by exact zN⟩)
  all_goals (first|exact zP aV aV aI|skip)
  all_goals (first|exact zP aX aX aJ|skip)
theorem GK (c:Ch) (h:Ha) (v1 v2:Value) (lo:Nat) (w:World) (h1:ag w lo v1 c.cells) (h2:ai w lo v2 c.words) (hc0:0≤h.cell) (hc1:h.cell<c.cells.length) (hs:h.seen=0) (hx:h.cell<h.come) :
  Calls Tryz.prog 205 #[.agg (af c v1 v2),.agg (aa h)] w fun r w'=>cz w w' lo v1 v2 (fG c h) r:=uE c h v1 v2 lo w h1 h2 hc0 hc1 hx (.inl hs)
theorem GL (c:Ch) (h:Ha) (v1 v2:Value) (lo:Nat) (w:World) (h1:ag w lo v1 c.cells) (h2:ai w lo v2 c.words) (hc0:0≤h.cell) (hc1:h.cell<c.cells.length) (hs:h.seen=1) (hx:h.cell<h.come) :
  Calls Tryz.prog 205 #[.agg (af c v1 v2),.agg (aa h)] w fun r w'=>cz w w' lo v1 v2 (fG c h) r:=uE c h v1 v2 lo w h1 h2 hc0 hc1 hx (.inr hs)
theorem JX (c:Ch) (h:Ha) (v1 v2:Value) (lo:Nat) (w:World) (h1:ag w lo v1 c.cells) (h2:ai w lo v2 c.words) (hc0:0≤h.cell) (hc1:h.cell<c.cells.length) (hs:(h.seen == 3)=true) (hs2:(h.seen == 2)=false) :
  cu 205 c h v1 v2 lo w (fG c h):=by
 have e:fG c h=iA c h 5 h.wait ({ h with pos:=13 }):=by simp at hs hs2;simp [fG,hs]
 rw [e]
 have K:=Lib.hid fun W a b=>qd c h 5 h.wait ({ h with pos:=13 }) v1 v2 lo W a b hc0 hc1
 generalize iA c h 5 h.wait ({ h with pos:=13 })=x at *
 have b1:=jF h1
 have b2:=jF h2
 have m1:=mG b1
 have m2:=mG b2
 have m10:=m1 (w.heap.size) tO
 have m20:=m2 (w.heap.size) tO
 have m11:=m1 (w.heap.size+1) tO
 have m21:=m2 (w.heap.size+1) tO
 have m12:=m1 (w.heap.size+1+1) tO
 have m22:=m2 (w.heap.size+1+1) tO
 have m13:=m1 (w.heap.size+1+1+1) tO
 have m23:=m2 (w.heap.size+1+1+1) tO
 have o1:=h1
 have o2:=h2
 obtain ⟨a1,q1,e1,_⟩:=h1.seg
 obtain ⟨a2,q2,e2,_⟩:=h2.seg
 subst e1 e2
 clear h1 h2 e
 go_enter Tryz.func205,Tryz.ntmps205
 go_wp2_with fail
 refine (K.out _ (zO o1 o1) (zO o2 o2)).mono ?_
 rintro _ w3 ⟨⟨y1,y2,rfl,aV,aX,dL,dI⟩,hO⟩
 have df:=hO.2.2.2.1;(try (simp at df));have zz:=vE hO (b:=w.heap.size);(try simp [go_sem] at zz);replace bX:=dF zz;clear zz
 have hO3:ik (Value.slice a1 c.cells.length q1).ownBlock (Value.slice a2 c.words.length q2).ownBlock w w3:=fu (dx zB) hO
 clear hO
 obtain ⟨⟨aI,aJ⟩,dP,dQ⟩:=sO (w:=w) (w.heap.size+1+1+1+1) dL dI b1 b2;obtain ⟨ya,yp,rfl,_⟩:=aV.seg;obtain ⟨yb,yq,rfl,_⟩:=aX.seg
 go_wp2
 refine rE Tryz.results205 rfl (az x.1 (.slice ya x.1.cells.length yp) (.slice yb x.1.words.length yq) tY) rfl (aj x.2.1 tY) ⟨⟨_,_,rfl,?_,?_,dP,dQ⟩,by exact zN⟩
 ·exact zP aV aV aI
 ·exact zP aX aX aJ
theorem GM (c:Ch) (h:Ha) (v1 v2:Value) (lo:Nat) (w:World) (h1:ag w lo v1 c.cells) (h2:ai w lo v2 c.words) (hs:(h.seen == 2)=false) (hs2:(h.seen == 3)=false) (hs3:(h.seen != 0)=true) (hs4:(h.seen != 1)=true) :
  cu 205 c h v1 v2 lo w (fG c h):=by
 have e:fG c h=nothing:=by simp at hs hs2 hs3 hs4;simp [fG,hs,hs2,hs3,hs4]
 rw [e]
 have T:=Lib.hid (gH · lo v1 v2)
 generalize nothing=x at *
 have b1:=jF h1
 have b2:=jF h2
 have m1:=mG b1
 have m2:=mG b2
 have m10:=m1 (w.heap.size) tO
 have m20:=m2 (w.heap.size) tO
 have m11:=m1 (w.heap.size+1) tO
 have m21:=m2 (w.heap.size+1) tO
 have m12:=m1 (w.heap.size+1+1) tO
 have m22:=m2 (w.heap.size+1+1) tO
 have m13:=m1 (w.heap.size+1+1+1) tO
 have m23:=m2 (w.heap.size+1+1+1) tO
 have o1:=h1
 have o2:=h2
 obtain ⟨a1,q1,e1,_⟩:=h1.seg
 obtain ⟨a2,q2,e2,_⟩:=h2.seg
 subst e1 e2
 clear h1 h2 e
 go_enter Tryz.func205,Tryz.ntmps205
 go_wp2_with fail;refine ax w zB fun bb=>?_;refine (T.out _).mono ?_;rintro _ w1 ⟨⟨y1,y2,rfl,aV,aX,dL,dI⟩,ah⟩;obtain ⟨aW,ay,zz⟩:=dZ bb ah (b:=w.heap.size);(try simp at ay);(try simp [go_sem] at zz);replace bX:=dF zz;clear zz ah bb
 obtain ⟨⟨aI,aJ⟩,dP,dQ⟩:=sO (w:=w) (w.heap.size+1+1+1+1) dL dI b1 b2;obtain ⟨ya,yp,rfl,_⟩:=aV.seg;obtain ⟨yb,yq,rfl,_⟩:=aX.seg
 go_wp2
 refine rE Tryz.results205 rfl (az x.1 (.slice ya x.1.cells.length yp) (.slice yb x.1.words.length yq) tY) rfl (aj x.2.1 tY) ⟨⟨_,_,rfl,?_,?_,dP,dQ⟩,dx zB⟩
 ·exact zP aV aV aI
 ·exact zP aX aX aJ
end
section
open Go.RowKit
attribute [local simp] aC
attribute [local go_sem ↓] aB aU aL bB aM bC aG aN au aF
theorem rX (c:Ch) (h:Ha) (v1 v2:Value) (lo:Nat) (w:World) (h1:ag w lo v1 c.cells) (h2:ai w lo v2 c.words) (hlo:lo≤w.heap.size) (hc0:0≤h.cell) (hc1:h.cell<c.cells.length) :
  (∀ (hs:h.seen=0) (hx:h.come≤h.cell) (hy:((eT c h 4 16 10).2.pos == 16)=true),Calls Tryz.prog 205 #[.agg (af c v1 v2),.agg (aa h)] w fun r w'=>cz w w' lo v1 v2 (fG c h) r) ∧
  (∀ (hs:h.seen=1) (hx:h.come≤h.cell) (hy:((eT c h 4 16 10).2.pos == 16)=true),Calls Tryz.prog 205 #[.agg (af c v1 v2),.agg (aa h)] w fun r w'=>cz w w' lo v1 v2 (fG c h) r):=by
 constructor
 case' left =>
  intro hs hx hy
  have mA:Hid (0=0):=rfl
 case' right =>
  intro hs hx hy
  have mB:Hid (0=0):=rfl
 all_goals
  have e:fG c h=done (eT c h 4 16 10).1 (rJ (eT c h 4 16 10).2):=by simp [fG,hs,show ¬ h.cell<h.come by omega]
  rw [e]
  have T:=Lib.hid fun W a b=>pW c h 4 16 10 v1 v2 lo W a b hc0 hc1
  have I:=Lib.hid (pX c h 4 16 10)
  generalize eT c h 4 16 10=y at *
  have hyn:rJ y.2={ y.2 with nxt:=1 }:=by simp at hy;simp [rJ,hy]
  rw [hyn]
  clear hyn
  have D:=Lib.hid fun v3 W=>bE y.1 ({ y.2 with nxt:=1 }) v1 v3 lo W
  generalize done y.1 ({ y.2 with nxt:=1 })=x at *
  have b1:=jF h1
  have b2:=jF h2
  have m1:=mG b1
  have m2:=mG b2
  have m10:=m1 (w.heap.size) tO
  have m20:=m2 (w.heap.size) tO
  have m11:=m1 (w.heap.size+1) tO
  have m21:=m2 (w.heap.size+1) tO
  have m12:=m1 (w.heap.size+1+1) tO
  have m22:=m2 (w.heap.size+1+1) tO
  have m13:=m1 (w.heap.size+1+1+1) tO
  have m23:=m2 (w.heap.size+1+1+1) tO
  have o1:=h1
  have o2:=h2
  obtain ⟨a1,q1,e1,_⟩:=h1.seg
  obtain ⟨a2,q2,e2,_⟩:=h2.seg
  subst e1 e2
  have hx2:¬ h.cell<h.come:=by omega
  clear h1 h2 e hx
  go_enter Tryz.func205,Tryz.ntmps205
  go_wp2_with fail
  refine (T.out _ (zO o1 o1) (zO o2 o2) (by simp;omega)).mono ?_
  rintro _ w1 ⟨v3,rfl,p1,p2,f3,hO⟩
  have ay:=hO.2.2.2.1;(try (simp at ay));have zz:=vE hO (b:=w.heap.size);(try simp [go_sem] at zz);replace bX:=dF zz;clear zz
  rw [← I.out]
  obtain ⟨a3,q3,rfl,_⟩:=p2.seg
  have vw:ik (Value.slice a1 c.cells.length q1).ownBlock (Value.slice a2 c.words.length q2).ownBlock w w1:=fu (dx zB) hO
  clear hO
  obtain ⟨k0,k1,k2,k3⟩:=kZ (a:=w.heap.size) (b:=w1.heap.size)
  go_wp2_with fail;refine ax w1 zB fun bk=>?_;refine (D.out _ _ (zO p1 p1) (zO p2 p2)).mono ?_;rintro _ w2 ⟨⟨y1,y2,rfl,aV,aX,dL,dI⟩,hbw2⟩;have bu:=hbw2.size;(try simp at bu);have zz:=zT hbw2 (b:=w.heap.size);(first|simp [go_sem,bX,k0,k1,k2,k3] at zz|simp [go_sem] at zz|skip);replace bX:=dF zz;clear zz;have eu:=bT bk hbw2;clear hbw2 bk
  have hO2:=fu vw (dx eu)
  replace dI:=f3.trans dI tS
  clear vw f3
  obtain ⟨⟨aI,aJ⟩,dP,dQ⟩:=sO (w:=w) (w.heap.size+1+1+1+1) dL dI b1 b2;obtain ⟨ya,yp,rfl,_⟩:=aV.seg;obtain ⟨yb,yq,rfl,_⟩:=aX.seg
  go_wp2
  refine rE Tryz.results205 rfl (az x.1 (.slice ya x.1.cells.length yp) (.slice yb x.1.words.length yq) tY) rfl (aj x.2.1 tY) ⟨⟨_,_,rfl,?_,?_,dP,dQ⟩,by exact zN⟩
  ·exact zP aV aV aI
  ·exact zP aX aX aJ
theorem DN (c:Ch) (h:Ha) (v1 v2:Value) (lo:Nat) (w:World) (h1:ag w lo v1 c.cells) (h2:ai w lo v2 c.words) (hlo:lo≤w.heap.size) (hc0:0≤h.cell) (hc1:h.cell<c.cells.length) (hs:h.seen=0) (hx:h.come≤h.cell) (hy:((eT c h 4 16 10).2.pos == 16)=true) :
  Calls Tryz.prog 205 #[.agg (af c v1 v2),.agg (aa h)] w fun r w'=>cz w w' lo v1 v2 (fG c h) r:=(rX c h v1 v2 lo w h1 h2 hlo hc0 hc1).1 hs hx hy
theorem DR (c:Ch) (h:Ha) (v1 v2:Value) (lo:Nat) (w:World) (h1:ag w lo v1 c.cells) (h2:ai w lo v2 c.words) (hlo:lo≤w.heap.size) (hc0:0≤h.cell) (hc1:h.cell<c.cells.length) (hs:h.seen=1) (hx:h.come≤h.cell) (hy:((eT c h 4 16 10).2.pos == 16)=true) :
  Calls Tryz.prog 205 #[.agg (af c v1 v2),.agg (aa h)] w fun r w'=>cz w w' lo v1 v2 (fG c h) r:=(rX c h v1 v2 lo w h1 h2 hlo hc0 hc1).2 hs hx hy
theorem rY (c:Ch) (h:Ha) (v1 v2:Value) (lo:Nat) (w:World) (h1:ag w lo v1 c.cells) (h2:ai w lo v2 c.words) (hlo:lo≤w.heap.size) (hc0:0≤h.cell) (hc1:h.cell<c.cells.length) :
  (∀ (hs:h.seen=0) (hx:h.come≤h.cell) (hy:((eT c h 4 16 10).2.pos == 16)=false),Calls Tryz.prog 205 #[.agg (af c v1 v2),.agg (aa h)] w fun r w'=>cz w w' lo v1 v2 (fG c h) r) ∧
  (∀ (hs:h.seen=1) (hx:h.come≤h.cell) (hy:((eT c h 4 16 10).2.pos == 16)=false),Calls Tryz.prog 205 #[.agg (af c v1 v2),.agg (aa h)] w fun r w'=>cz w w' lo v1 v2 (fG c h) r):=by
 constructor
 case' left =>
  intro hs hx hy
  have mA:Hid (0=0):=rfl
 case' right =>
  intro hs hx hy
  have mB:Hid (0=0):=rfl
 all_goals
  have e:fG c h=done (eT c h 4 16 10).1 (rJ (eT c h 4 16 10).2):=by simp [fG,hs,show ¬ h.cell<h.come by omega]
  rw [e]
  have T:=Lib.hid fun W a b=>pW c h 4 16 10 v1 v2 lo W a b hc0 hc1
  have I:=Lib.hid (pX c h 4 16 10)
  generalize eT c h 4 16 10=y at *
  have hyn:rJ y.2=y.2:=by simp at hy;simp [rJ,hy]
  rw [hyn]
  clear hyn
  have D:=Lib.hid fun v3 W=>bE y.1 (y.2) v1 v3 lo W
  generalize done y.1 (y.2)=x at *
  have b1:=jF h1
  have b2:=jF h2
  have m1:=mG b1
  have m2:=mG b2
  have m10:=m1 (w.heap.size) tO
  have m20:=m2 (w.heap.size) tO
  have m11:=m1 (w.heap.size+1) tO
  have m21:=m2 (w.heap.size+1) tO
  have m12:=m1 (w.heap.size+1+1) tO
  have m22:=m2 (w.heap.size+1+1) tO
  have m13:=m1 (w.heap.size+1+1+1) tO
  have m23:=m2 (w.heap.size+1+1+1) tO
  have o1:=h1
  have o2:=h2
  obtain ⟨a1,q1,e1,_⟩:=h1.seg
  obtain ⟨a2,q2,e2,_⟩:=h2.seg
  subst e1 e2
  have hx2:¬ h.cell<h.come:=by omega
  clear h1 h2 e hx
  go_enter Tryz.func205,Tryz.ntmps205
  go_wp2_with fail
  refine (T.out _ (zO o1 o1) (zO o2 o2) (by simp;omega)).mono ?_
  rintro _ w1 ⟨v3,rfl,p1,p2,f3,hO⟩
  have ay:=hO.2.2.2.1;(try (simp at ay));have zz:=vE hO (b:=w.heap.size);(try simp [go_sem] at zz);replace bX:=dF zz;clear zz
  rw [← I.out]
  obtain ⟨a3,q3,rfl,_⟩:=p2.seg
  have vw:ik (Value.slice a1 c.cells.length q1).ownBlock (Value.slice a2 c.words.length q2).ownBlock w w1:=fu (dx zB) hO
  clear hO
  obtain ⟨k0,k1,k2,k3⟩:=kZ (a:=w.heap.size) (b:=w1.heap.size)
  go_wp2_with fail;refine ax w1 zB fun bk=>?_;refine (D.out _ _ (zO p1 p1) (zO p2 p2)).mono ?_;rintro _ w2 ⟨⟨y1,y2,rfl,aV,aX,dL,dI⟩,hbw2⟩;have bu:=hbw2.size;(try simp at bu);have zz:=zT hbw2 (b:=w.heap.size);(first|simp [go_sem,bX,k0,k1,k2,k3] at zz|simp [go_sem] at zz|skip);replace bX:=dF zz;clear zz;have eu:=bT bk hbw2;clear hbw2 bk
  have hO2:=fu vw (dx eu)
  replace dI:=f3.trans dI tS
  clear vw f3
  obtain ⟨⟨aI,aJ⟩,dP,dQ⟩:=sO (w:=w) (w.heap.size+1+1+1+1) dL dI b1 b2;obtain ⟨ya,yp,rfl,_⟩:=aV.seg;obtain ⟨yb,yq,rfl,_⟩:=aX.seg
  go_wp2
  refine rE Tryz.results205 rfl (az x.1 (.slice ya x.1.cells.length yp) (.slice yb x.1.words.length yq) tY) rfl (aj x.2.1 tY) ⟨⟨_,_,rfl,?_,?_,dP,dQ⟩,by exact zN⟩
  ·exact zP aV aV aI
  ·exact zP aX aX aJ
theorem DT (c:Ch) (h:Ha) (v1 v2:Value) (lo:Nat) (w:World) (h1:ag w lo v1 c.cells) (h2:ai w lo v2 c.words) (hlo:lo≤w.heap.size) (hc0:0≤h.cell) (hc1:h.cell<c.cells.length) (hs:h.seen=0) (hx:h.come≤h.cell) (hy:((eT c h 4 16 10).2.pos == 16)=false) :
  Calls Tryz.prog 205 #[.agg (af c v1 v2),.agg (aa h)] w fun r w'=>cz w w' lo v1 v2 (fG c h) r:=(rY c h v1 v2 lo w h1 h2 hlo hc0 hc1).1 hs hx hy
theorem DU (c:Ch) (h:Ha) (v1 v2:Value) (lo:Nat) (w:World) (h1:ag w lo v1 c.cells) (h2:ai w lo v2 c.words) (hlo:lo≤w.heap.size) (hc0:0≤h.cell) (hc1:h.cell<c.cells.length) (hs:h.seen=1) (hx:h.come≤h.cell) (hy:((eT c h 4 16 10).2.pos == 16)=false) :
  Calls Tryz.prog 205 #[.agg (af c v1 v2),.agg (aa h)] w fun r w'=>cz w w' lo v1 v2 (fG c h) r:=(rY c h v1 v2 lo w h1 h2 hlo hc0 hc1).2 hs hx hy
theorem DV (c:Ch) (h:Ha) (v1 v2:Value) (lo:Nat) (w:World) (h1:ag w lo v1 c.cells) (h2:ai w lo v2 c.words) (hlo:lo≤w.heap.size) (hc0:0≤h.cell) (hc1:h.cell<c.cells.length) :
  cu 205 c h v1 v2 lo w (fG c h):=by
 by_cases s2:h.seen=2
 ·exact JW c h v1 v2 lo w h1 h2 hc0 hc1 s2
 ·by_cases s3:h.seen=3
  ·exact JX c h v1 v2 lo w h1 h2 hc0 hc1 (by simpa using s3) (by simpa using s2)
  ·by_cases s0:h.seen=0
   ·by_cases hx:h.cell<h.come
    ·exact GK c h v1 v2 lo w h1 h2 hc0 hc1 s0 hx
    ·cases hy:(eT c h 4 16 10).2.pos == 16 with
     | true=>exact DN c h v1 v2 lo w h1 h2 hlo hc0 hc1 s0 tO hy
     | false=>exact DT c h v1 v2 lo w h1 h2 hlo hc0 hc1 s0 tO hy
   ·by_cases s1:h.seen=1
    ·by_cases hx:h.cell<h.come
     ·exact GL c h v1 v2 lo w h1 h2 hc0 hc1 s1 hx
     ·cases hy:(eT c h 4 16 10).2.pos == 16 with
      | true=>exact DR c h v1 v2 lo w h1 h2 hlo hc0 hc1 s1 tO hy
      | false=>exact DU c h v1 v2 lo w h1 h2 hlo hc0 hc1 s1 tO hy
    ·exact GM c h v1 v2 lo w h1 h2 (by simpa using s2) (by simpa using s3) (by simpa using s0) (by simpa using s1)
end
section
open Go.RowKit
attribute [local simp] aC
attribute [local go_sem ↓] aB aU aL bB aM bC aG aN au aF
theorem JY (c:Ch) (h:Ha) (a b:Option Addr) (p q:Nat) (w:World) (h1:eY w w.heap.size a c.cells) (z1:a=none→p=0) (h2:eQ w w.heap.size b c.words) (z2:b=none→q=0) (hk:bf c h 1 8 1=true) (hp0:h.pos=1) (hs:c.sent=40) :
  Calls Tryz.prog 189 #[.agg (af c (.slice a c.cells.length p) (.slice b c.words.length q)),.agg (aa h)] w fun r w'=>bV w w' (aZ c h) r:=by
 have e:aZ c h=done c (aP 4 0):=by simp [aZ,hk,hp0,wV,hs]
 rw [e]
 obtain ⟨k1,k2,_,_⟩:=bQ hk
 obtain ⟨n1,n2⟩:=dU k1
 have m1:c.cells.length≤1099511627776:=by omega
 have m2:c.words.length≤1099511627776:=by omega
 have H1:=Lib.hid h1
 have H2:=Lib.hid h2
 have Z1:=Lib.hid z1
 have Z2:=Lib.hid z2
 have D:=Lib.hid fun v1 v2 W=>bE c (aP 4 0) v1 v2 w.heap.size W
 generalize done c (aP 4 0)=x at *
 clear h1 h2 z1 z2 e k1 k2 n1 n2
 go_enter Tryz.func189,Tryz.ntmps189
 go_wp2_with fail;refine ax w zB fun bb=>?_;refine (d9 c h 1 8 1 a b p q _ (aT H1 bb) (aT H2 bb)).mono ?_;rintro _ w1 ⟨rfl,ah⟩;obtain ⟨aW,ay,zz⟩:=dZ bb ah (b:=w.heap.size);(try simp at ay);(try simp [go_sem] at zz);replace bX:=dF zz;clear zz ah bb
 rw [hk]
 go_wp2_with fail;refine ax w zB fun bb=>?_;refine (dA c a b p q _ (aT H1 bb) Z1.out (aT H2 bb) Z2.out m1 m2).mono ?_;rintro _ w2 ⟨⟨v1,v2,rfl,o1,o2⟩,hbw2⟩;obtain ⟨dE,bu,zz⟩:=dZ bb hbw2 (b:=w.heap.size);(try simp at bu);(first|simp [go_sem,bX] at zz|simp [go_sem] at zz|skip);replace bX:=dF zz;clear zz hbw2 bb
 have d1:=jd o1 (w.heap.size+1+1+1+1)
 have d2:=jd o2 (w.heap.size+1+1+1+1)
 have p1:=av (lo':=w.heap.size) o1 tO
 have p2:=av (lo':=w.heap.size) o2 tO
 obtain ⟨a1,q1,rfl,_⟩:=o1.seg
 obtain ⟨a2,q2,rfl,_⟩:=o2.seg
 go_wp2_with fail
 go_region_with (first|((go_at_call 130;refine ax w zB fun bb=>?_;refine ax w2 zB fun bk=>?_;refine (fO _ _ _).mono ?_;rintro _ w5 ⟨rfl,dD⟩;have oM:=bT bb dD;have iL:=dD.size;(try simp at iL);have zz:=And.intro (hQ dD (b:=w2.heap.size)) <| And.intro (hQ dD (b:=w.heap.size+1+1+1)) <| And.intro (hQ dD (b:=w.heap.size+1+1)) <| And.intro (hQ dD (b:=w.heap.size+1)) <| hQ dD (b:=w.heap.size);(first|simp [go_sem,bX] at zz|simp [go_sem] at zz|skip);replace bX:=jL zz;clear zz;have jH:=bT bk dD;clear dD bb bk);have r1:=own_below p1 jH;have r2:=own_below p2 jH)|((go_at_call 198;refine ax w zB fun bb=>?_;refine (D.out _ _ _ (zO r1 o1) (zO r2 o2)).mono ?_;rintro _ w3 ⟨⟨y1,y2,rfl,aV,aX,dL,dI⟩,aO⟩;obtain ⟨ig,df,zz⟩:=dZ bb aO (b:=w.heap.size);(try simp at df);(first|simp [go_sem,bX] at zz|simp [go_sem] at zz|skip);replace bX:=dF zz;clear zz aO bb);obtain ⟨⟨aI,aJ⟩,dP,dQ⟩:=lL (w:=w) (w.heap.size+1+1+1+1) dL dI d1 d2;obtain ⟨ya,yp,rfl,_⟩:=aV.seg;obtain ⟨yb,yq,rfl,_⟩:=aX.seg))
 all_goals go_wp2
 all_goals (refine rE Tryz.results189 rfl (az x.1 (.slice ya x.1.cells.length yp) (.slice yb x.1.words.length yq) tY) rfl (aj x.2.1 tY) ⟨⟨_,_,rfl,?_,?_,dP,dQ⟩,by exact zB⟩)
 all_goals (first|exact zP aV aV aI|skip)
 all_goals (first|exact zP aX aX aJ|skip)
end
section
open Go.RowKit
attribute [local simp] aC
attribute [local go_sem ↓] aB aU aL bB aM bC aG aN au aF
theorem ML (c:Ch) (h:Ha) (a b:Option Addr) (p q:Nat) (w:World) (h1:eY w w.heap.size a c.cells) (z1:a=none→p=0) (h2:eQ w w.heap.size b c.words) (z2:b=none→q=0) (hk:bf c h 1 8 1=true) (hp0:h.pos=6) :
  Calls Tryz.prog 189 #[.agg (af c (.slice a c.cells.length p) (.slice b c.words.length q)),.agg (aa h)] w fun r w'=>bV w w' (aZ c h) r:=by
 have e:aZ c h=iK c h:=by simp [aZ,hk,hp0]
 rw [e]
 obtain ⟨k1,k2,_,_⟩:=bQ hk
 obtain ⟨n1,n2⟩:=dU k1
 have m1:c.cells.length≤1099511627776:=by omega
 have m2:c.words.length≤1099511627776:=by omega
 have H1:=Lib.hid h1
 have H2:=Lib.hid h2
 have Z1:=Lib.hid z1
 have Z2:=Lib.hid z2
 obtain ⟨c1,c2⟩:=fM k2
 have D:=Lib.hid fun v1 v2 W x1 x2 x3=>Gx c h v1 v2 w.heap.size W x1 x2 x3 c1 tO
 generalize iK c h=x at *
 clear h1 h2 z1 z2 e k1 k2 n1 n2
 go_enter Tryz.func189,Tryz.ntmps189
 go_wp2_with fail;refine ax w zB fun bb=>?_;refine (d9 c h 1 8 1 a b p q _ (aT H1 bb) (aT H2 bb)).mono ?_;rintro _ w1 ⟨rfl,ah⟩;obtain ⟨aW,ay,zz⟩:=dZ bb ah (b:=w.heap.size);(try simp at ay);(try simp [go_sem] at zz);replace bX:=dF zz;clear zz ah bb
 rw [hk]
 go_wp2_with fail;refine ax w zB fun bb=>?_;refine (dA c a b p q _ (aT H1 bb) Z1.out (aT H2 bb) Z2.out m1 m2).mono ?_;rintro _ w2 ⟨⟨v1,v2,rfl,o1,o2⟩,hbw2⟩;obtain ⟨dE,bu,zz⟩:=dZ bb hbw2 (b:=w.heap.size);(try simp at bu);(first|simp [go_sem,bX] at zz|simp [go_sem] at zz|skip);replace bX:=dF zz;clear zz hbw2 bb
 have d1:=jd o1 (w.heap.size+1+1+1+1)
 have d2:=jd o2 (w.heap.size+1+1+1+1)
 have p1:=av (lo':=w.heap.size) o1 tO
 have p2:=av (lo':=w.heap.size) o2 tO
 obtain ⟨a1,q1,rfl,_⟩:=o1.seg
 obtain ⟨a2,q2,rfl,_⟩:=o2.seg
 have m1:∀ j,j<w.heap.size+1+1+1+1→some j≠(Value.slice a1 c.cells.length q1).ownBlock:=fun j hj e=>by have:=d1 _ e.symm;omega
 have m2:∀ j,j<w.heap.size+1+1+1+1→some j≠(Value.slice a2 c.words.length q2).ownBlock:=fun j hj e=>by have:=d2 _ e.symm;omega
 have m10:=m1 w.heap.size tO
 have m11:=m1 (w.heap.size+1) tO
 have m12:=m1 (w.heap.size+1+1) tO
 have m13:=m1 (w.heap.size+1+1+1) tO
 have m20:=m2 w.heap.size tO
 have m21:=m2 (w.heap.size+1) tO
 have m22:=m2 (w.heap.size+1+1) tO
 have m23:=m2 (w.heap.size+1+1+1) tO
 go_wp2_with fail
 refine (D.out _ _ _ (zO p1 o1) (zO p2 o2) (by simp;omega)).mono ?_
 rintro _ w3 ⟨⟨y1,y2,rfl,aV,aX,dL,dI⟩,hO⟩
 have hB3:Below w.heap.size w w3:=FU zB hO (fun j hj=>by have:=d1 j hj;omega) (fun j hj=>by have:=d2 j hj;omega)
 have df:=hO.2.2.2.1;(try (simp at df));have zz:=vE hO (b:=w.heap.size);(first|simp [go_sem,bX] at zz|simp [go_sem] at zz|skip);replace bX:=dF zz;clear zz
 clear hO
 obtain ⟨⟨aI,aJ⟩,dP,dQ⟩:=lL (w:=w) (w.heap.size+1+1+1+1) dL dI d1 d2;obtain ⟨ya,yp,rfl,_⟩:=aV.seg;obtain ⟨yb,yq,rfl,_⟩:=aX.seg
 go_wp2
 refine rE Tryz.results189 rfl (az x.1 (.slice ya x.1.cells.length yp) (.slice yb x.1.words.length yq) tY) rfl (aj x.2.1 tY) ⟨⟨_,_,rfl,?_,?_,dP,dQ⟩,by exact zB⟩
 ·exact zP aV aV aI
 ·exact zP aX aX aJ
end
end Go.Proofs.YtffhjmepfojhnaaGreat
