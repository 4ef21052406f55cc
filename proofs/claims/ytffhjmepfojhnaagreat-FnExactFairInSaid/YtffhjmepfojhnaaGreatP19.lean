/-
  The beginning of growing, of the reference model, on hands and channels that are kept whole; lists lie in memory and hold at most 2 ^ 40 elements.
-/
import Derived.Test.YtffhjmepfojhnaaGreatP10
import Derived.BigRegion
import Derived.Test.YtffhjmepfojhnaaGreatP05
import Derived.Test.YtffhjmepfojhnaaGreatP18
import Derived.Test.YtffhjmepfojhnaaGreatP12
import Derived.Test.YtffhjmepfojhnaaGreatP06
import Derived.Deep.RegionHeld3
import Derived.Deep.DeepCutAuto
import Derived.Test.YtffhjmepfojhnaaGreatP14
set_option maxRecDepth 100000
set_option maxHeartbeats 4000000
set_option linter.unusedSimpArgs false
set_option linter.unusedVariables false
namespace Go.Proofs.YtffhjmepfojhnaaGreat
section
open Go.RowKit
attribute [local simp] aI
attribute [local go_sem ↓] aH aU aM bz aN bB aA aK ax aB
theorem A7 (c:Ch) (h:Ha):(fT c h).1.cells=c.cells:=by unfold fT;split <;> rfl
theorem A8 (c:Ch) (h:Ha):(fT c h).1.words=c.words:=by unfold fT;split <;> rfl
theorem A9 (c:Ch) (h:Ha) (a1 a2:Option Addr) (n1 n2 q1 q2:Nat) (w:World) (hf:0≤c.fin∧c.fin≤40) :
  Calls Tryz.prog 208 #[.agg (af c (.slice a1 n1 q1) (.slice a2 n2 q2)),.agg (aa h)] w fun r w'=>r=.returned (.tuple #[.agg (af (fT c h).1 (.slice a1 n1 q1) (.slice a2 n2 q2)),.agg (aa (fT c h).2)])∧Below w.heap.size w w':=by
 by_cases hc:c.cap=0∨c.fin=40
 ·rw [show fT c h=(c,df h) by unfold fT;rw [if_pos (by simpa using hc)]]
  have hc2:(c.cap == 0)=true∨((c.cap == 0)=false∧(c.fin == 40)=true):=by
   by_cases h0:c.cap=0
   ·exact .inl (by simpa using h0)
   ·exact .inr ⟨by simpa using h0,by simpa [h0] using hc⟩
  clear hc
  rcases hc2 with hc2|⟨hc2,hc3⟩
  all_goals go_enter Tryz.func208,Tryz.ntmps208
  all_goals go_wp2_with fail
  all_goals go_region_with (first|((go_at_call 209;refine au w zB fun bb=>?_;refine (ib _ _).mono ?_;rintro _ w1 ⟨rfl,ag⟩;obtain ⟨aV,ak,zz⟩:=dV bb ag (b:=w.heap.size);(try simp at ak);(try simp [go_sem] at zz);replace bX:=dx zz;clear zz;have eD:=aV;clear ag bb)))
  all_goals go_wp2
  all_goals exact bodyPost_ret (nW Tryz.results208 rfl (az c (.slice a1 n1 q1) (.slice a2 n2 q2) tY) rfl (aj (df h) tY)) rfl ⟨rfl,by exact zB⟩
 ·have hc0:(c.cap == 0)=false:=by simp;omega
  have hc1:(c.fin == 40)=false:=by simp;omega
  rw [show fT c h=({ c with fin:=c.fin+1 },{ h with grow:=c.fin,pos:=17 }) by unfold fT;rw [if_neg (by simpa using hc)]]
  clear hc
  go_enter Tryz.func208,Tryz.ntmps208
  go_wp2_with fail
  go_region
  all_goals go_wp2
  all_goals exact bodyPost_ret (nW Tryz.results208 rfl (az { c with fin:=c.fin+1 } (.slice a1 n1 q1) (.slice a2 n2 q2) tZ) rfl (aj { h with grow:=c.fin,pos:=17 } tZ)) rfl ⟨rfl,by exact zB⟩
end
section
open Go.RowKit
attribute [local simp] aI
attribute [local go_sem ↓] aH aU aM bz aN bB aA aK ax aB
theorem sP (c:Ch) (h:Ha) (v1 v2:Value) (lo:Nat) (w:World) (h1:ah w lo v1 c.cells) (h2:ai w lo v2 c.words) (hc0:0≤h.grow) (hc1:h.grow<c.cells.length) (hs:(h.seen == 3)=true) (hs2:(h.seen == 0)=false) :
    (∀ (ht:bn c h.grow h.seen 6 h.wait=true),Calls Tryz.prog 211 #[.agg (af c v1 v2),.agg (aa h)] w fun r w'=>cK w w' lo v1 v2 (fK c h) r) ∧
    (∀ (ht:bn c h.grow h.seen 6 h.wait=false),Calls Tryz.prog 211 #[.agg (af c v1 v2),.agg (aa h)] w fun r w'=>cK w w' lo v1 v2 (fK c h) r):=by
  constructor
  case' left =>
    intro ht
    have mA:Hid (0=0):=rfl
  case' right =>
    intro ht
    have mB:Hid (0=0):=rfl
  all_goals
    obtain ⟨i,hci⟩:∃ i:Nat,h.grow=(i:Int):=⟨h.grow.toNat,by omega⟩
    have hi:i<c.cells.length:=by omega
    first
    | (replace mA:=mA
       have ht2:bn c i h.seen 6 h.wait=true:=by rw [← ht,hci]
       have e:fK c h=done (bf c i h.seen 6 h.wait) ({ h with pos:=20,grow:=(i:Int) }):=by simp at hs hs2;simp [fK,jH,hs,hs2,hci] at ht2 ⊢;simp [ht2])
    | (replace mB:=mB
       have ht2:bn c i h.seen 6 h.wait=false:=by rw [← ht,hci]
       have e:fK c h=done (bf c i h.seen 6 h.wait) ({ h with pos:=18,grow:=(i:Int) }):=by simp at hs hs2;simp [fK,jH,hs,hs2,hci] at ht2 ⊢;simp [ht2])
    rw [e]
    have T:=Lib.hid fun W a b=>iw c i h.seen 6 h.wait v1 v2 lo W a b hi
    first
    | (replace mA:=mA
       have D:=Lib.hid fun W=>aW (bf c i h.seen 6 h.wait) ({ h with pos:=20,grow:=(i:Int) }) v1 v2 lo W
       generalize done (bf c i h.seen 6 h.wait) ({ h with pos:=20,grow:=(i:Int) })=x at *)
    | (replace mB:=mB
       have D:=Lib.hid fun W=>aW (bf c i h.seen 6 h.wait) ({ h with pos:=18,grow:=(i:Int) }) v1 v2 lo W
       generalize done (bf c i h.seen 6 h.wait) ({ h with pos:=18,grow:=(i:Int) })=x at *)
    rw [ht2] at T
    have b1:=jc h1
    have b2:=jc h2
    have m1:=lD b1
    have m2:=lD b2
    have m10:=m1 (w.heap.size) tO
    have m20:=m2 (w.heap.size) tO
    have m11:=m1 (w.heap.size+1) tO
    have m21:=m2 (w.heap.size+1) tO
    have m12:=m1 (w.heap.size+1+1) tO
    have m22:=m2 (w.heap.size+1+1) tO
    have m13:=m1 (w.heap.size+1+1+1) tO
    have m23:=m2 (w.heap.size+1+1+1) tO
    have o1:=h1
    have o2:=h2
    obtain ⟨a1,q1,e1,_⟩:=h1.seg
    obtain ⟨a2,q2,e2,_⟩:=h2.seg
    subst e1 e2
    clear h1 h2 e ht
    go_enter Tryz.func211,Tryz.ntmps211
    go_wp2_with fail;refine au w zB fun bb=>?_;refine (ib _ _).mono ?_;rintro _ w4 ⟨rfl,d9⟩;have kI:Below w.heap.size w w4:=bT bb d9;have gu:=d9.size;(try simp at gu);have zz:=q4 d9 (b:=w.heap.size);(try simp [go_sem] at zz);(try clear aJ cu cz bq);(try clear bg dJ dK bW);(try clear dE dS dZ dz);(try clear bG di dC bV);obtain ⟨aJ,bg,dE,bG⟩:=zz;obtain ⟨cu,cz,bq⟩:=bO aJ;obtain ⟨dJ,dK,bW⟩:=bO bg;obtain ⟨dS,dZ,dz⟩:=bO dE;obtain ⟨di,dC,bV⟩:=bO bG;clear d9 bb
    have o3:=own_below o1 kI
    have o4:=own_below o2 kI
    have m14:=m1 w4.heap.size tO
    have m24:=m2 w4.heap.size tO
    have fH:w4.heap.size<w4.heap.size+1:=by omega
    obtain ⟨k0,k1,k2,k3⟩:=jW (a:=w.heap.size) (b:=w4.heap.size)
    go_wp2_with fail;refine (T.out _ (zO o3 o1) (zO o4 o2)).mono ?_;rintro _ w1 ⟨rfl,p1,p2,hgw1⟩;have ak:=hgw1.size;(try (simp at ak));have zz:=And.intro (dN hgw1 (b:=w4.heap.size) tS (by assumption)) <| And.intro (dN hgw1 (b:=w.heap.size+1+1+1) tS (by assumption)) <| And.intro (dN hgw1 (b:=w.heap.size+1+1) tS (by assumption)) <| And.intro (dN hgw1 (b:=w.heap.size+1) tS (by assumption)) <| dN hgw1 (b:=w.heap.size) tS (by assumption);(first|simp [go_sem,aJ,bg,dE,bG,bV,fH,dz,bW,bq,k0,k1,k2,k3] at zz|simp [go_sem] at zz|skip);(try clear eB gW gX fH);(try clear aJ cu cz bq);(try clear bg dJ dK bW);(try clear dE dS dZ dz);(try clear bG di dC bV);obtain ⟨eB,aJ,bg,dE,bG⟩:=zz;obtain ⟨gW,gX,fH⟩:=bO eB;obtain ⟨cu,cz,bq⟩:=bO aJ;obtain ⟨dJ,dK,bW⟩:=bO bg;obtain ⟨dS,dZ,dz⟩:=bO dE;obtain ⟨di,dC,bV⟩:=bO bG;have jJ:=Gg (w:=w) zB hgw1;clear hgw1
    have tL:gV (Value.slice a1 c.cells.length q1).ownBlock (Value.slice a2 c.words.length q2).ownBlock w w1:=kS jJ
    clear k0 k1 k2 k3
    obtain ⟨k0,k1,k2,k3⟩:=jW (a:=w.heap.size) (b:=w1.heap.size)
    have k4:w4.heap.size<w1.heap.size:=by omega
    have r1:ah w1 lo (.slice a1 c.cells.length q1) (bf c i h.seen 6 h.wait).cells:=p1
    have r2:ai w1 lo (.slice a2 c.words.length q2) (bf c i h.seen 6 h.wait).words:=p2
    go_wp2_with fail
    refine (D.out _ (zO r1 o1) (zO r2 o2)).mono ?_
    rintro _ w3 ⟨⟨y1,y2,rfl,aO,aQ,dH,dF⟩,aC⟩
    have hO3:gV (Value.slice a1 c.cells.length q1).ownBlock (Value.slice a2 c.words.length q2).ownBlock w w3:=fA zN (dA aC)
    have bM:=aC.size;(try simp at bM);have zz:=q4 aC (b:=w.heap.size);(first|simp [go_sem,aJ,bg,dE,bG,bV,dz,bW,bq,k0,k1,k2,k3,k4] at zz|simp [go_sem] at zz|skip);(try clear aJ cu cz bq);(try clear bg dJ dK bW);(try clear dE dS dZ dz);(try clear bG di dC bV);obtain ⟨aJ,bg,dE,bG⟩:=zz;obtain ⟨cu,cz,bq⟩:=bO aJ;obtain ⟨dJ,dK,bW⟩:=bO bg;obtain ⟨dS,dZ,dz⟩:=bO dE;obtain ⟨di,dC,bV⟩:=bO bG;clear aC
    obtain ⟨⟨aD,aF⟩,dQ,dR⟩:=sO (w:=w) (w.heap.size+1+1+1+1) dH dF b1 b2;obtain ⟨ya,yp,rfl,_⟩:=aO.seg;obtain ⟨yb,yq,rfl,_⟩:=aQ.seg
    go_wp2
    refine rE Tryz.results211 rfl (az x.1 (.slice ya x.1.cells.length yp) (.slice yb x.1.words.length yq) tY) rfl (aj x.2.1 tY) ⟨⟨_,_,rfl,?_,?_,dQ,dR⟩,by exact zN⟩
    · exact zP aO aO aD
    · exact zP aQ aQ aF
theorem FN (c:Ch) (h:Ha) (v1 v2:Value) (lo:Nat) (w:World) (h1:ah w lo v1 c.cells) (h2:ai w lo v2 c.words) (hc0:0≤h.grow) (hc1:h.grow<c.cells.length) (hs:(h.seen == 3)=true) (hs2:(h.seen == 0)=false) (ht:bn c h.grow h.seen 6 h.wait=true) :
    Calls Tryz.prog 211 #[.agg (af c v1 v2),.agg (aa h)] w fun r w'=>cK w w' lo v1 v2 (fK c h) r:=(sP c h v1 v2 lo w h1 h2 hc0 hc1 hs hs2).1 ht
theorem FO (c:Ch) (h:Ha) (v1 v2:Value) (lo:Nat) (w:World) (h1:ah w lo v1 c.cells) (h2:ai w lo v2 c.words) (hc0:0≤h.grow) (hc1:h.grow<c.cells.length) (hs:(h.seen == 3)=true) (hs2:(h.seen == 0)=false) (ht:bn c h.grow h.seen 6 h.wait=false) :
    Calls Tryz.prog 211 #[.agg (af c v1 v2),.agg (aa h)] w fun r w'=>cK w w' lo v1 v2 (fK c h) r:=(sP c h v1 v2 lo w h1 h2 hc0 hc1 hs hs2).2 ht
theorem sQ (c:Ch) (h:Ha) (v1 v2:Value) (lo:Nat) (w:World) (h1:ah w lo v1 c.cells) (h2:ai w lo v2 c.words) (hc0:0≤h.grow) (hc1:h.grow<c.cells.length) (hs:(h.seen == 3)=false) (hs2:(h.seen == 0)=true) :
    (∀ (ht:bn c h.grow h.seen 1 0=true),Calls Tryz.prog 211 #[.agg (af c v1 v2),.agg (aa h)] w fun r w'=>cK w w' lo v1 v2 (fK c h) r) ∧
    (∀ (ht:bn c h.grow h.seen 1 0=false),Calls Tryz.prog 211 #[.agg (af c v1 v2),.agg (aa h)] w fun r w'=>cK w w' lo v1 v2 (fK c h) r):=by
  constructor
  case' left =>
    intro ht
    have mA:Hid (0=0):=rfl
  case' right =>
    intro ht
    have mB:Hid (0=0):=rfl
  all_goals
    obtain ⟨i,hci⟩:∃ i:Nat,h.grow=(i:Int):=⟨h.grow.toNat,by omega⟩
    have hi:i<c.cells.length:=by omega
    first
    | (replace mA:=mA
       have ht2:bn c i h.seen 1 0=true:=by rw [← ht,hci]
       have e:fK c h=done (bf c i h.seen 1 0) (df h):=by simp at hs hs2;simp [fK,jH,hs,hs2,hci] at ht2 ⊢;simp [ht2])
    | (replace mB:=mB
       have ht2:bn c i h.seen 1 0=false:=by rw [← ht,hci]
       have e:fK c h=done (bf c i h.seen 1 0) ({ h with pos:=18,grow:=(i:Int) }):=by simp at hs hs2;simp [fK,jH,hs,hs2,hci] at ht2 ⊢;simp [ht2])
    rw [e]
    have T:=Lib.hid fun W a b=>iw c i h.seen 1 0 v1 v2 lo W a b hi
    first
    | (replace mA:=mA
       have D:=Lib.hid fun W=>aW (bf c i h.seen 1 0) (df h) v1 v2 lo W
       generalize done (bf c i h.seen 1 0) (df h)=x at *)
    | (replace mB:=mB
       have D:=Lib.hid fun W=>aW (bf c i h.seen 1 0) ({ h with pos:=18,grow:=(i:Int) }) v1 v2 lo W
       generalize done (bf c i h.seen 1 0) ({ h with pos:=18,grow:=(i:Int) })=x at *)
    rw [ht2] at T
    have b1:=jc h1
    have b2:=jc h2
    have m1:=lD b1
    have m2:=lD b2
    have m10:=m1 (w.heap.size) tO
    have m20:=m2 (w.heap.size) tO
    have m11:=m1 (w.heap.size+1) tO
    have m21:=m2 (w.heap.size+1) tO
    have m12:=m1 (w.heap.size+1+1) tO
    have m22:=m2 (w.heap.size+1+1) tO
    have m13:=m1 (w.heap.size+1+1+1) tO
    have m23:=m2 (w.heap.size+1+1+1) tO
    have o1:=h1
    have o2:=h2
    obtain ⟨a1,q1,e1,_⟩:=h1.seg
    obtain ⟨a2,q2,e2,_⟩:=h2.seg
    subst e1 e2
    clear h1 h2 e ht
    go_enter Tryz.func211,Tryz.ntmps211
    go_wp2_with fail;refine au w zB fun bb=>?_;refine (ib _ _).mono ?_;rintro _ w4 ⟨rfl,d9⟩;have kI:Below w.heap.size w w4:=bT bb d9;have gu:=d9.size;(try simp at gu);have zz:=q4 d9 (b:=w.heap.size);(try simp [go_sem] at zz);(try clear aJ cu cz bq);(try clear bg dJ dK bW);(try clear dE dS dZ dz);(try clear bG di dC bV);obtain ⟨aJ,bg,dE,bG⟩:=zz;obtain ⟨cu,cz,bq⟩:=bO aJ;obtain ⟨dJ,dK,bW⟩:=bO bg;obtain ⟨dS,dZ,dz⟩:=bO dE;obtain ⟨di,dC,bV⟩:=bO bG;clear d9 bb
    have o3:=own_below o1 kI
    have o4:=own_below o2 kI
    have m14:=m1 w4.heap.size tO
    have m24:=m2 w4.heap.size tO
    have fH:w4.heap.size<w4.heap.size+1:=by omega
    obtain ⟨k0,k1,k2,k3⟩:=jW (a:=w.heap.size) (b:=w4.heap.size)
    go_wp2_with fail;refine (T.out _ (zO o3 o1) (zO o4 o2)).mono ?_;rintro _ w1 ⟨rfl,p1,p2,hgw1⟩;have ak:=hgw1.size;(try (simp at ak));have zz:=And.intro (dN hgw1 (b:=w4.heap.size) tS (by assumption)) <| And.intro (dN hgw1 (b:=w.heap.size+1+1+1) tS (by assumption)) <| And.intro (dN hgw1 (b:=w.heap.size+1+1) tS (by assumption)) <| And.intro (dN hgw1 (b:=w.heap.size+1) tS (by assumption)) <| dN hgw1 (b:=w.heap.size) tS (by assumption);(first|simp [go_sem,aJ,bg,dE,bG,bV,fH,dz,bW,bq,k0,k1,k2,k3] at zz|simp [go_sem] at zz|skip);(try clear eB gW gX fH);(try clear aJ cu cz bq);(try clear bg dJ dK bW);(try clear dE dS dZ dz);(try clear bG di dC bV);obtain ⟨eB,aJ,bg,dE,bG⟩:=zz;obtain ⟨gW,gX,fH⟩:=bO eB;obtain ⟨cu,cz,bq⟩:=bO aJ;obtain ⟨dJ,dK,bW⟩:=bO bg;obtain ⟨dS,dZ,dz⟩:=bO dE;obtain ⟨di,dC,bV⟩:=bO bG;have jJ:=Gg (w:=w) zB hgw1;clear hgw1
    have tL:gV (Value.slice a1 c.cells.length q1).ownBlock (Value.slice a2 c.words.length q2).ownBlock w w1:=kS jJ
    clear k0 k1 k2 k3
    obtain ⟨k0,k1,k2,k3⟩:=jW (a:=w.heap.size) (b:=w1.heap.size)
    have k4:w4.heap.size<w1.heap.size:=by omega
    have r1:ah w1 lo (.slice a1 c.cells.length q1) (bf c i h.seen 1 0).cells:=p1
    have r2:ai w1 lo (.slice a2 c.words.length q2) (bf c i h.seen 1 0).words:=p2
    go_wp2_with fail
    refine (D.out _ (zO r1 o1) (zO r2 o2)).mono ?_
    rintro _ w3 ⟨⟨y1,y2,rfl,aO,aQ,dH,dF⟩,aC⟩
    have hO3:gV (Value.slice a1 c.cells.length q1).ownBlock (Value.slice a2 c.words.length q2).ownBlock w w3:=fA zN (dA aC)
    have bM:=aC.size;(try simp at bM);have zz:=q4 aC (b:=w.heap.size);(first|simp [go_sem,aJ,bg,dE,bG,bV,dz,bW,bq,k0,k1,k2,k3,k4] at zz|simp [go_sem] at zz|skip);(try clear aJ cu cz bq);(try clear bg dJ dK bW);(try clear dE dS dZ dz);(try clear bG di dC bV);obtain ⟨aJ,bg,dE,bG⟩:=zz;obtain ⟨cu,cz,bq⟩:=bO aJ;obtain ⟨dJ,dK,bW⟩:=bO bg;obtain ⟨dS,dZ,dz⟩:=bO dE;obtain ⟨di,dC,bV⟩:=bO bG;clear aC
    obtain ⟨⟨aD,aF⟩,dQ,dR⟩:=sO (w:=w) (w.heap.size+1+1+1+1) dH dF b1 b2;obtain ⟨ya,yp,rfl,_⟩:=aO.seg;obtain ⟨yb,yq,rfl,_⟩:=aQ.seg
    go_wp2
    refine rE Tryz.results211 rfl (az x.1 (.slice ya x.1.cells.length yp) (.slice yb x.1.words.length yq) tY) rfl (aj x.2.1 tY) ⟨⟨_,_,rfl,?_,?_,dQ,dR⟩,by exact zN⟩
    · exact zP aO aO aD
    · exact zP aQ aQ aF
theorem FP (c:Ch) (h:Ha) (v1 v2:Value) (lo:Nat) (w:World) (h1:ah w lo v1 c.cells) (h2:ai w lo v2 c.words) (hc0:0≤h.grow) (hc1:h.grow<c.cells.length) (hs:(h.seen == 3)=false) (hs2:(h.seen == 0)=true) (ht:bn c h.grow h.seen 1 0=true) :
    Calls Tryz.prog 211 #[.agg (af c v1 v2),.agg (aa h)] w fun r w'=>cK w w' lo v1 v2 (fK c h) r:=(sQ c h v1 v2 lo w h1 h2 hc0 hc1 hs hs2).1 ht
theorem FQ (c:Ch) (h:Ha) (v1 v2:Value) (lo:Nat) (w:World) (h1:ah w lo v1 c.cells) (h2:ai w lo v2 c.words) (hc0:0≤h.grow) (hc1:h.grow<c.cells.length) (hs:(h.seen == 3)=false) (hs2:(h.seen == 0)=true) (ht:bn c h.grow h.seen 1 0=false) :
    Calls Tryz.prog 211 #[.agg (af c v1 v2),.agg (aa h)] w fun r w'=>cK w w' lo v1 v2 (fK c h) r:=(sQ c h v1 v2 lo w h1 h2 hc0 hc1 hs hs2).2 ht
theorem FR (c:Ch) (h:Ha) (v1 v2:Value) (lo:Nat) (w:World) (h1:ah w lo v1 c.cells) (h2:ai w lo v2 c.words) (hs:(h.seen == 3)=false) (hs2:(h.seen == 0)=false) :
    bY 211 c h v1 v2 lo w (fK c h):=by
  have e:fK c h=nothing:=by simp at hs hs2;simp [fK,hs,hs2]
  rw [e]
  have T:=Lib.hid (fQ · lo v1 v2)
  generalize nothing=x at *
  have b1:=jc h1
  have b2:=jc h2
  have m1:=lD b1
  have m2:=lD b2
  have m10:=m1 (w.heap.size) tO
  have m20:=m2 (w.heap.size) tO
  have m11:=m1 (w.heap.size+1) tO
  have m21:=m2 (w.heap.size+1) tO
  have m12:=m1 (w.heap.size+1+1) tO
  have m22:=m2 (w.heap.size+1+1) tO
  have m13:=m1 (w.heap.size+1+1+1) tO
  have m23:=m2 (w.heap.size+1+1+1) tO
  have o1:=h1
  have o2:=h2
  obtain ⟨a1,q1,e1,_⟩:=h1.seg
  obtain ⟨a2,q2,e2,_⟩:=h2.seg
  subst e1 e2
  clear h1 h2 e
  go_enter Tryz.func211,Tryz.ntmps211
  go_wp2_with fail;refine au w zB fun bb=>?_;refine (ib _ _).mono ?_;rintro _ w4 ⟨rfl,d9⟩;obtain ⟨kI,gu,zz⟩:=dV bb d9 (b:=w.heap.size);(try simp at gu);(try simp [go_sem] at zz);replace bX:=dx zz;clear zz d9 bb
  go_wp2_with fail;refine au w zB fun bb=>?_;refine (T.out _).mono ?_;rintro _ w1 ⟨⟨y1,y2,rfl,aO,aQ,dH,dF⟩,ag⟩;obtain ⟨aV,ak,zz⟩:=dV bb ag (b:=w.heap.size);(try simp at ak);(first|simp [go_sem,bX] at zz|simp [go_sem] at zz|skip);replace bX:=dx zz;clear zz ag bb
  obtain ⟨⟨aD,aF⟩,dQ,dR⟩:=sO (w:=w) (w.heap.size+1+1+1+1) dH dF b1 b2;obtain ⟨ya,yp,rfl,_⟩:=aO.seg;obtain ⟨yb,yq,rfl,_⟩:=aQ.seg
  go_wp2
  refine rE Tryz.results211 rfl (az x.1 (.slice ya x.1.cells.length yp) (.slice yb x.1.words.length yq) tY) rfl (aj x.2.1 tY) ⟨⟨_,_,rfl,?_,?_,dQ,dR⟩,dA zB⟩
  · exact zP aO aO aD
  · exact zP aQ aQ aF
theorem Dl (c:Ch) (h:Ha) (v1 v2:Value) (lo:Nat) (w:World) (h1:ah w lo v1 c.cells) (h2:ai w lo v2 c.words) (hc0:0≤h.grow) (hc1:h.grow<c.cells.length) :
    bY 211 c h v1 v2 lo w (fK c h):=by
  by_cases s3:h.seen=3
  · cases ht:bn c h.grow h.seen 6 h.wait with
    | true=>exact FN c h v1 v2 lo w h1 h2 hc0 hc1 (by simpa using s3) (by simp [s3]) ht
    | false=>exact FO c h v1 v2 lo w h1 h2 hc0 hc1 (by simpa using s3) (by simp [s3]) ht
  · by_cases s0:h.seen=0
    · cases ht:bn c h.grow h.seen 1 0 with
      | true=>exact FP c h v1 v2 lo w h1 h2 hc0 hc1 (by simpa using s3) (by simpa using s0) ht
      | false=>exact FQ c h v1 v2 lo w h1 h2 hc0 hc1 (by simpa using s3) (by simpa using s0) ht
    · exact FR c h v1 v2 lo w h1 h2 (by simpa using s3) (by simpa using s0)
end
section
open Go.RowKit
attribute [local simp] aI
attribute [local go_sem ↓] aH aU aM bz aN bB aA aK ax aB
theorem IW (c:Ch) (h:Ha) (a b:Option Addr) (p q:Nat) (w:World) (h1:eY w w.heap.size a c.cells) (z1:a=none→p=0) (h2:eZ w w.heap.size b c.words) (z2:b=none→q=0) (hk:aX c h 16 22 2=true) (hp0:h.pos=16) :
  Calls Tryz.prog 191 #[.agg (af c (.slice a c.cells.length p) (.slice b c.words.length q)),.agg (aa h)] w fun r w'=>bQ w w' (aY c h) r:=by
 obtain ⟨k1,k2,_,_⟩:=bu hk
 obtain ⟨n1,n2⟩:=dM k1
 have m1:c.cells.length≤1099511627776:=by omega
 have m2:c.words.length≤1099511627776:=by omega
 have H1:=Lib.hid h1
 have H2:=Lib.hid h2
 have Z1:=Lib.hid z1
 have Z2:=Lib.hid z2
 have e:aY c h=done (fT c h).1 (fT c h).2:=by simp [aY,hk,hp0]
 rw [e]
 have hfin:0≤c.fin∧c.fin≤40:=Il k1
 have K:=fun a1 a2 n1 n2 q1 q2 W=>A9 c h a1 a2 n1 n2 q1 q2 W hfin
 have D:=fun v1 v2 W=>aW (fT c h).1 (fT c h).2 v1 v2 w.heap.size W
 rw [A7,A8] at D
 generalize done (fT c h).1 (fT c h).2=x at *
 generalize (fT c h).1=cb at *
 generalize (fT c h).2=hb at *
 replace K:=Lib.hid K
 replace D:=Lib.hid D
 clear h1 h2 z1 z2 e k1 k2 n1 n2
 go_enter Tryz.func191,Tryz.ntmps191
 go_wp2_with fail;refine au w zB fun bb=>?_;refine (bZ c h 16 22 2 a b p q _ (aT H1 bb) (aT H2 bb)).mono ?_;rintro _ w1 ⟨rfl,ag⟩;obtain ⟨aV,ak,zz⟩:=dV bb ag (b:=w.heap.size);(try simp at ak);(try simp [go_sem] at zz);replace bX:=dx zz;clear zz ag bb
 rw [hk]
 go_wp2_with fail;refine au w zB fun bb=>?_;refine (cO c a b p q _ (aT H1 bb) Z1.out (aT H2 bb) Z2.out m1 m2).mono ?_;rintro _ w2 ⟨⟨v1,v2,rfl,o1,o2⟩,hbw2⟩;obtain ⟨dh,aR,zz⟩:=dV bb hbw2 (b:=w.heap.size);(try simp at aR);(first|simp [go_sem,bX] at zz|simp [go_sem] at zz|skip);replace bX:=dx zz;clear zz hbw2 bb
 have d1:=iH o1 (w.heap.size+1+1+1+1)
 have d2:=iH o2 (w.heap.size+1+1+1+1)
 have p1:=ay (lo':=w.heap.size) o1 tO
 have p2:=ay (lo':=w.heap.size) o2 tO
 obtain ⟨a1,q1,rfl,_⟩:=o1.seg
 obtain ⟨a2,q2,rfl,_⟩:=o2.seg
 obtain ⟨k0,k1,k2,k3⟩:=jW (a:=w.heap.size) (b:=w2.heap.size)
 go_wp2_with fail;refine au w zB fun bb=>?_;refine au w2 zB fun bk=>?_;refine (K.out _ _ _ _ _ _ _).mono ?_;rintro _ w4 ⟨rfl,d9⟩;have kI:=bT bb d9;have gu:=d9.size;(try simp at gu);have zz:=And.intro (hQ d9 (b:=w2.heap.size)) <| And.intro (hQ d9 (b:=w.heap.size+1+1+1)) <| And.intro (hQ d9 (b:=w.heap.size+1+1)) <| And.intro (hQ d9 (b:=w.heap.size+1)) <| hQ d9 (b:=w.heap.size);(first|simp [go_sem,bX,k0,k1,k2,k3] at zz|simp [go_sem] at zz|skip);replace bX:=jb zz;clear zz;have mP:=bT bk d9;clear d9 bb bk
 have s1:=own_below p1 mP
 have s2:=own_below p2 mP
 go_wp2_with fail;refine au w zB fun bb=>?_;refine (D.out _ _ _ (zO s1 o1) (zO s2 o2)).mono ?_;rintro _ w3 ⟨⟨y1,y2,rfl,aO,aQ,dH,dF⟩,aC⟩;obtain ⟨iG,bM,zz⟩:=dV bb aC (b:=w.heap.size);(try simp at bM);(first|simp [go_sem,bX,k0,k1,k2,k3] at zz|simp [go_sem] at zz|skip);replace bX:=dx zz;clear zz aC bb
 obtain ⟨⟨aD,aF⟩,dQ,dR⟩:=kH (w:=w) (w.heap.size+1+1+1+1) dH dF d1 d2;obtain ⟨ya,yp,rfl,_⟩:=aO.seg;obtain ⟨yb,yq,rfl,_⟩:=aQ.seg
 go_wp2
 refine rE Tryz.results191 rfl (az x.1 (.slice ya x.1.cells.length yp) (.slice yb x.1.words.length yq) tY) rfl (aj x.2.1 tY) ⟨⟨_,_,rfl,?_,?_,dQ,dR⟩,by exact zB⟩
 ·exact zP aO aO aD
 ·exact zP aQ aQ aF
theorem IX (c:Ch) (h:Ha) (a b:Option Addr) (p q:Nat) (w:World) (h1:eY w w.heap.size a c.cells) (z1:a=none→p=0) (h2:eZ w w.heap.size b c.words) (z2:b=none→q=0) (hk:aX c h 16 22 2=true) (hp0:h.pos=19) :
  Calls Tryz.prog 191 #[.agg (af c (.slice a c.cells.length p) (.slice b c.words.length q)),.agg (aa h)] w fun r w'=>bQ w w' (aY c h) r:=by
 obtain ⟨k1,k2,_,_⟩:=bu hk
 obtain ⟨n1,n2⟩:=dM k1
 have m1:c.cells.length≤1099511627776:=by omega
 have m2:c.words.length≤1099511627776:=by omega
 have H1:=Lib.hid h1
 have H2:=Lib.hid h2
 have Z1:=Lib.hid z1
 have Z2:=Lib.hid z2
 obtain ⟨c1,c2⟩:=lq k2
 have e:aY c h=fK c h:=by simp [aY,hk,hp0]
 rw [e]
 have D:=Lib.hid fun v1 v2 W x1 x2=>Dl c h v1 v2 w.heap.size W x1 x2 c1 tO
 generalize fK c h=x at *
 clear h1 h2 z1 z2 e k1 k2 n1 n2 c1 c2
 go_enter Tryz.func191,Tryz.ntmps191
 go_wp2_with fail;refine au w zB fun bb=>?_;refine (bZ c h 16 22 2 a b p q _ (aT H1 bb) (aT H2 bb)).mono ?_;rintro _ w1 ⟨rfl,ag⟩;obtain ⟨aV,ak,zz⟩:=dV bb ag (b:=w.heap.size);(try simp at ak);(try simp [go_sem] at zz);replace bX:=dx zz;clear zz ag bb
 rw [hk]
 go_wp2_with fail;refine au w zB fun bb=>?_;refine (cO c a b p q _ (aT H1 bb) Z1.out (aT H2 bb) Z2.out m1 m2).mono ?_;rintro _ w2 ⟨⟨v1,v2,rfl,o1,o2⟩,hbw2⟩;obtain ⟨dh,aR,zz⟩:=dV bb hbw2 (b:=w.heap.size);(try simp at aR);(first|simp [go_sem,bX] at zz|simp [go_sem] at zz|skip);replace bX:=dx zz;clear zz hbw2 bb
 have d1:=iH o1 (w.heap.size+1+1+1+1)
 have d2:=iH o2 (w.heap.size+1+1+1+1)
 have p1:=ay (lo':=w.heap.size) o1 tO
 have p2:=ay (lo':=w.heap.size) o2 tO
 obtain ⟨a1,q1,rfl,_⟩:=o1.seg
 obtain ⟨a2,q2,rfl,_⟩:=o2.seg
 have m3:∀ j,j<w.heap.size+1+1+1+1→some j≠(Value.slice a1 c.cells.length q1).ownBlock:=fun j hj e=>by have:=d1 _ e.symm;omega
 have m4:∀ j,j<w.heap.size+1+1+1+1→some j≠(Value.slice a2 c.words.length q2).ownBlock:=fun j hj e=>by have:=d2 _ e.symm;omega
 have m10:=m3 (w.heap.size) tO
 have m20:=m4 (w.heap.size) tO
 have m11:=m3 (w.heap.size+1) tO
 have m21:=m4 (w.heap.size+1) tO
 have m12:=m3 (w.heap.size+1+1) tO
 have m22:=m4 (w.heap.size+1+1) tO
 have m13:=m3 (w.heap.size+1+1+1) tO
 have m23:=m4 (w.heap.size+1+1+1) tO
 go_wp2_with fail
 refine (D.out _ _ _ (zO p1 o1) (zO p2 o2)).mono ?_
 rintro _ w3 ⟨⟨y1,y2,rfl,aO,aQ,dH,dF⟩,hO⟩
 have hB3:Below w.heap.size w w3:=Bc zB hO (fun j hj=>by have:=d1 j hj;omega) (fun j hj=>by have:=d2 j hj;omega)
 have bM:=hO.2.2.2.1;(try (simp at bM));have zz:=Bl hO (b:=w.heap.size);(first|simp [go_sem,bX] at zz|simp [go_sem] at zz|skip);replace bX:=dx zz;clear zz
 clear hO
 obtain ⟨⟨aD,aF⟩,dQ,dR⟩:=kH (w:=w) (w.heap.size+1+1+1+1) dH dF d1 d2;obtain ⟨ya,yp,rfl,_⟩:=aO.seg;obtain ⟨yb,yq,rfl,_⟩:=aQ.seg
 go_wp2
 refine rE Tryz.results191 rfl (az x.1 (.slice ya x.1.cells.length yp) (.slice yb x.1.words.length yq) tY) rfl (aj x.2.1 tY) ⟨⟨_,_,rfl,?_,?_,dQ,dR⟩,by exact zB⟩
 ·exact zP aO aO aD
 ·exact zP aQ aQ aF
theorem uO (c:Ch) (h:Ha) (a b:Option Addr) (p q:Nat) (w:World) (h1:eY w w.heap.size a c.cells) (z1:a=none→p=0) (h2:eZ w w.heap.size b c.words) (z2:b=none→q=0) :
  Calls Tryz.prog 191 #[.agg (af c (.slice a c.cells.length p) (.slice b c.words.length q)),.agg (aa h)] w fun r w'=>bQ w w' (aY c h) r:=by
 cases hk:aX c h 16 22 2 with
 | false=>exact IQ c h a b p q w h1 h2 hk
 | true =>
  obtain ⟨k1,_,k3,k4⟩:=bu hk
  have hp:h.pos=16∨h.pos=17∨h.pos=18∨h.pos=19∨h.pos=20∨h.pos=21∨h.pos=22:=by omega
  rcases hp with hp|hp|hp|hp|hp|hp|hp
  ·exact IW c h a b p q w h1 z1 h2 z2 hk hp
  ·by_cases hs:c.sent≤h.grow
   ·exact FH c h a b p q w h1 z1 h2 z2 hk hp hs
   ·exact FI c h a b p q w h1 z1 h2 z2 hk hp hs
  ·by_cases hs:(cellAt c h.grow).s=5
   ·exact FL c h a b p q w h1 z1 h2 z2 hk hp hs
   ·exact FM c h a b p q w h1 z1 h2 z2 hk hp (by simpa using hs)
  ·exact IX c h a b p q w h1 z1 h2 z2 hk hp
  ·cases ht:eU c h.wait 1 with
   | true=>exact FJ c h a b p q w h1 z1 h2 z2 hk hp ht
   | false=>exact FK c h a b p q w h1 z1 h2 z2 hk hp ht
  ·exact IU c h a b p q w h1 z1 h2 z2 hk hp
  ·exact IV c h a b p q w h1 z1 h2 z2 hk hp
end
section
open Go.RowKit
attribute [local simp] aI
attribute [local go_sem ↓] aH aU aM bz aN bB aA aK ax aB
theorem KW (c:Ch) (h:Ha) (a b:Option Addr) (p q:Nat) (w:World) (h1:eY w w.heap.size a c.cells) (z1:a=none→p=0) (h2:eZ w w.heap.size b c.words) (z2:b=none→q=0) (hp1:1≤h.pos) (hp2:h.pos≤8) :
  Calls Tryz.prog 173 #[.agg (af c (.slice a c.cells.length p) (.slice b c.words.length q)),.agg (aa h)] w fun r w'=>bQ w w' (gM c h) r:=by
 have e:gM c h=bK c h:=by simp [gM,dL,hp1,hp2]
 rw [e]
 have H1:=Lib.hid h1
 have H2:=Lib.hid h2
 have Z1:=Lib.hid z1
 have Z2:=Lib.hid z2
 have T:=Lib.hid fun W=>ug c h a b p q W
 generalize bK c h=x at *
 clear h1 h2 z1 z2 e
 have d1:∀ j,(Value.slice none 0 0).ownBlock=some j→w.heap.size+1+1+1+1≤j:=fun j hj=>by cases hj
 have d2:=d1
 go_enter Tryz.func173,Tryz.ntmps173
 go_wp2_with fail;refine au w zB fun bb=>?_;refine (T.out _ (aT H1 bb) Z1.out (aT H2 bb) Z2.out).mono ?_;rintro _ w2 ⟨⟨y1,y2,rfl,aO,aQ,dH,dF⟩,hbw2⟩;obtain ⟨dh,aR,zz⟩:=dV bb hbw2 (b:=w.heap.size);(try simp at aR);(try simp [go_sem] at zz);replace bX:=dx zz;clear zz hbw2 bb
 replace aO:ah w2 w.heap.size y1 x.1.cells:=ay (lo':=w.heap.size) aO tS
 replace aQ:ai w2 w.heap.size y2 x.1.words:=ay (lo':=w.heap.size) aQ tS
 obtain ⟨⟨aD,aF⟩,dQ,dR⟩:=kH (w:=w) (w.heap.size+1+1+1+1) dH dF d1 d2;obtain ⟨ya,yp,rfl,_⟩:=aO.seg;obtain ⟨yb,yq,rfl,_⟩:=aQ.seg
 go_wp2
 refine rE Tryz.results173 rfl (az x.1 (.slice ya x.1.cells.length yp) (.slice yb x.1.words.length yq) tY) rfl (aj x.2.1 tY) ⟨⟨_,_,rfl,?_,?_,dQ,dR⟩,by exact zB⟩
 ·exact zP aO aO aD
 ·exact zP aQ aQ aF
theorem KX (c:Ch) (h:Ha) (a b:Option Addr) (p q:Nat) (w:World) (h1:eY w w.heap.size a c.cells) (z1:a=none→p=0) (h2:eZ w w.heap.size b c.words) (z2:b=none→q=0) (hp1:9≤h.pos) (hp2:h.pos≤15) :
  Calls Tryz.prog 173 #[.agg (af c (.slice a c.cells.length p) (.slice b c.words.length q)),.agg (aa h)] w fun r w'=>bQ w w' (gM c h) r:=by
 have e:gM c h=aP c h:=by rw [gM,if_neg (by simp [dL];omega),if_pos (by simp [dL];omega)]
 rw [e]
 have l1:1≤h.pos:=by omega
 have u8:¬ h.pos≤8:=by omega
 have H1:=Lib.hid h1
 have H2:=Lib.hid h2
 have Z1:=Lib.hid z1
 have Z2:=Lib.hid z2
 have T:=Lib.hid fun W=>uf c h a b p q W
 generalize aP c h=x at *
 clear h1 h2 z1 z2 e
 have d1:∀ j,(Value.slice none 0 0).ownBlock=some j→w.heap.size+1+1+1+1≤j:=fun j hj=>by cases hj
 have d2:=d1
 go_enter Tryz.func173,Tryz.ntmps173
 go_wp2_with fail;refine au w zB fun bb=>?_;refine (T.out _ (aT H1 bb) Z1.out (aT H2 bb) Z2.out).mono ?_;rintro _ w2 ⟨⟨y1,y2,rfl,aO,aQ,dH,dF⟩,hbw2⟩;obtain ⟨dh,aR,zz⟩:=dV bb hbw2 (b:=w.heap.size);(try simp at aR);(try simp [go_sem] at zz);replace bX:=dx zz;clear zz hbw2 bb
 replace aO:ah w2 w.heap.size y1 x.1.cells:=ay (lo':=w.heap.size) aO tS
 replace aQ:ai w2 w.heap.size y2 x.1.words:=ay (lo':=w.heap.size) aQ tS
 obtain ⟨⟨aD,aF⟩,dQ,dR⟩:=kH (w:=w) (w.heap.size+1+1+1+1) dH dF d1 d2;obtain ⟨ya,yp,rfl,_⟩:=aO.seg;obtain ⟨yb,yq,rfl,_⟩:=aQ.seg
 go_wp2
 refine rE Tryz.results173 rfl (az x.1 (.slice ya x.1.cells.length yp) (.slice yb x.1.words.length yq) tY) rfl (aj x.2.1 tY) ⟨⟨_,_,rfl,?_,?_,dQ,dR⟩,by exact zB⟩
 ·exact zP aO aO aD
 ·exact zP aQ aQ aF
theorem KY (c:Ch) (h:Ha) (a b:Option Addr) (p q:Nat) (w:World) (h1:eY w w.heap.size a c.cells) (z1:a=none→p=0) (h2:eZ w w.heap.size b c.words) (z2:b=none→q=0) (hp1:16≤h.pos) (hp2:h.pos≤22) :
  Calls Tryz.prog 173 #[.agg (af c (.slice a c.cells.length p) (.slice b c.words.length q)),.agg (aa h)] w fun r w'=>bQ w w' (gM c h) r:=by
 have e:gM c h=aY c h:=by rw [gM,if_neg (by simp [dL];omega),if_neg (by simp [dL];omega),if_pos (by simp [dL];omega)]
 rw [e]
 have l1:1≤h.pos:=by omega
 have l9:9≤h.pos:=by omega
 have u8:¬ h.pos≤8:=by omega
 have Qx:¬ h.pos≤15:=by omega
 have H1:=Lib.hid h1
 have H2:=Lib.hid h2
 have Z1:=Lib.hid z1
 have Z2:=Lib.hid z2
 have T:=Lib.hid fun W=>uO c h a b p q W
 generalize aY c h=x at *
 clear h1 h2 z1 z2 e
 have d1:∀ j,(Value.slice none 0 0).ownBlock=some j→w.heap.size+1+1+1+1≤j:=fun j hj=>by cases hj
 have d2:=d1
 go_enter Tryz.func173,Tryz.ntmps173
 go_wp2_with fail;refine au w zB fun bb=>?_;refine (T.out _ (aT H1 bb) Z1.out (aT H2 bb) Z2.out).mono ?_;rintro _ w2 ⟨⟨y1,y2,rfl,aO,aQ,dH,dF⟩,hbw2⟩;obtain ⟨dh,aR,zz⟩:=dV bb hbw2 (b:=w.heap.size);(try simp at aR);(try simp [go_sem] at zz);replace bX:=dx zz;clear zz hbw2 bb
 replace aO:ah w2 w.heap.size y1 x.1.cells:=ay (lo':=w.heap.size) aO tS
 replace aQ:ai w2 w.heap.size y2 x.1.words:=ay (lo':=w.heap.size) aQ tS
 obtain ⟨⟨aD,aF⟩,dQ,dR⟩:=kH (w:=w) (w.heap.size+1+1+1+1) dH dF d1 d2;obtain ⟨ya,yp,rfl,_⟩:=aO.seg;obtain ⟨yb,yq,rfl,_⟩:=aQ.seg
 go_wp2
 refine rE Tryz.results173 rfl (az x.1 (.slice ya x.1.cells.length yp) (.slice yb x.1.words.length yq) tY) rfl (aj x.2.1 tY) ⟨⟨_,_,rfl,?_,?_,dQ,dR⟩,by exact zB⟩
 ·exact zP aO aO aD
 ·exact zP aQ aQ aF
theorem KZ (c:Ch) (h:Ha) (a b:Option Addr) (p q:Nat) (w:World) (h1:eY w w.heap.size a c.cells) (z1:a=none→p=0) (h2:eZ w w.heap.size b c.words) (z2:b=none→q=0) (hp1:23≤h.pos) :
  Calls Tryz.prog 173 #[.agg (af c (.slice a c.cells.length p) (.slice b c.words.length q)),.agg (aa h)] w fun r w'=>bQ w w' (gM c h) r:=by
 have e:gM c h=bC c h:=by rw [gM,if_neg (by simp [dL];omega),if_neg (by simp [dL];omega),if_neg (by simp [dL];omega)]
 rw [e]
 have l1:1≤h.pos:=by omega
 have l9:9≤h.pos:=by omega
 have Qy:16≤h.pos:=by omega
 have u8:¬ h.pos≤8:=by omega
 have Qx:¬ h.pos≤15:=by omega
 have u22:¬ h.pos≤22:=by omega
 have H1:=Lib.hid h1
 have H2:=Lib.hid h2
 have Z1:=Lib.hid z1
 have Z2:=Lib.hid z2
 have T:=Lib.hid fun W=>nQ c h a b p q W
 generalize bC c h=x at *
 clear h1 h2 z1 z2 e
 have d1:∀ j,(Value.slice none 0 0).ownBlock=some j→w.heap.size+1+1+1+1≤j:=fun j hj=>by cases hj
 have d2:=d1
 go_enter Tryz.func173,Tryz.ntmps173
 go_wp2_with fail;refine au w zB fun bb=>?_;refine (T.out _ (aT H1 bb) Z1.out (aT H2 bb) Z2.out).mono ?_;rintro _ w2 ⟨⟨y1,y2,rfl,aO,aQ,dH,dF⟩,hbw2⟩;obtain ⟨dh,aR,zz⟩:=dV bb hbw2 (b:=w.heap.size);(try simp at aR);(try simp [go_sem] at zz);replace bX:=dx zz;clear zz hbw2 bb
 replace aO:ah w2 w.heap.size y1 x.1.cells:=ay (lo':=w.heap.size) aO tS
 replace aQ:ai w2 w.heap.size y2 x.1.words:=ay (lo':=w.heap.size) aQ tS
 obtain ⟨⟨aD,aF⟩,dQ,dR⟩:=kH (w:=w) (w.heap.size+1+1+1+1) dH dF d1 d2;obtain ⟨ya,yp,rfl,_⟩:=aO.seg;obtain ⟨yb,yq,rfl,_⟩:=aQ.seg
 go_wp2
 refine rE Tryz.results173 rfl (az x.1 (.slice ya x.1.cells.length yp) (.slice yb x.1.words.length yq) tY) rfl (aj x.2.1 tY) ⟨⟨_,_,rfl,?_,?_,dQ,dR⟩,by exact zB⟩
 ·exact zP aO aO aD
 ·exact zP aQ aQ aF
theorem La (c:Ch) (h:Ha) (a b:Option Addr) (p q:Nat) (w:World) (h1:eY w w.heap.size a c.cells) (z1:a=none→p=0) (h2:eZ w w.heap.size b c.words) (z2:b=none→q=0) (hp1:h.pos≤0) :
  Calls Tryz.prog 173 #[.agg (af c (.slice a c.cells.length p) (.slice b c.words.length q)),.agg (aa h)] w fun r w'=>bQ w w' (gM c h) r:=by
 have e:gM c h=bC c h:=by rw [gM,if_neg (by simp [dL];omega),if_neg (by simp [dL];omega),if_neg (by simp [dL];omega)]
 rw [e]
 have l1:¬ 1≤h.pos:=by omega
 have l9:¬ 9≤h.pos:=by omega
 have Qy:¬ 16≤h.pos:=by omega
 have H1:=Lib.hid h1
 have H2:=Lib.hid h2
 have Z1:=Lib.hid z1
 have Z2:=Lib.hid z2
 have T:=Lib.hid fun W=>nQ c h a b p q W
 generalize bC c h=x at *
 clear h1 h2 z1 z2 e
 have d1:∀ j,(Value.slice none 0 0).ownBlock=some j→w.heap.size+1+1+1+1≤j:=fun j hj=>by cases hj
 have d2:=d1
 go_enter Tryz.func173,Tryz.ntmps173
 go_wp2_with fail;refine au w zB fun bb=>?_;refine (T.out _ (aT H1 bb) Z1.out (aT H2 bb) Z2.out).mono ?_;rintro _ w2 ⟨⟨y1,y2,rfl,aO,aQ,dH,dF⟩,hbw2⟩;obtain ⟨dh,aR,zz⟩:=dV bb hbw2 (b:=w.heap.size);(try simp at aR);(try simp [go_sem] at zz);replace bX:=dx zz;clear zz hbw2 bb
 replace aO:ah w2 w.heap.size y1 x.1.cells:=ay (lo':=w.heap.size) aO tS
 replace aQ:ai w2 w.heap.size y2 x.1.words:=ay (lo':=w.heap.size) aQ tS
 obtain ⟨⟨aD,aF⟩,dQ,dR⟩:=kH (w:=w) (w.heap.size+1+1+1+1) dH dF d1 d2;obtain ⟨ya,yp,rfl,_⟩:=aO.seg;obtain ⟨yb,yq,rfl,_⟩:=aQ.seg
 go_wp2
 refine rE Tryz.results173 rfl (az x.1 (.slice ya x.1.cells.length yp) (.slice yb x.1.words.length yq) tY) rfl (aj x.2.1 tY) ⟨⟨_,_,rfl,?_,?_,dQ,dR⟩,by exact zB⟩
 ·exact zP aO aO aD
 ·exact zP aQ aQ aF
theorem FT (c:Ch) (h:Ha) (a b:Option Addr) (p q:Nat) (w:World) (h1:eY w w.heap.size a c.cells) (z1:a=none→p=0) (h2:eZ w w.heap.size b c.words) (z2:b=none→q=0) :
  Calls Tryz.prog 173 #[.agg (af c (.slice a c.cells.length p) (.slice b c.words.length q)),.agg (aa h)] w fun r w'=>bQ w w' (gM c h) r:=by
 have hp:h.pos≤0∨(1≤h.pos∧h.pos≤8)∨(9≤h.pos∧h.pos≤15)∨(16≤h.pos∧h.pos≤22)∨23≤h.pos:=by omega
 rcases hp with hp|⟨hp,hq⟩|⟨hp,hq⟩|⟨hp,hq⟩|hp
 ·exact La c h a b p q w h1 z1 h2 z2 hp
 ·exact KW c h a b p q w h1 z1 h2 z2 hp hq
 ·exact KX c h a b p q w h1 z1 h2 z2 hp hq
 ·exact KY c h a b p q w h1 z1 h2 z2 hp hq
 ·exact KZ c h a b p q w h1 z1 h2 z2 hp
end
section
open Go.RowKit
attribute [local simp] aI
attribute [local go_sem ↓] aH aU aM bz aN bB aA aK ax aB
theorem Dm (x:St) (c:Ch) (h:Ha) (a b:Option Addr) (p q:Nat) (w:World) (h1:eY w w.heap.size a c.cells) (z1:a=none→p=0) (h2:eZ w w.heap.size b c.words) (z2:b=none→q=0)
  (hs:∀ (a b:Option Addr) (p q:Nat) (w:World),eY w w.heap.size a c.cells→(a=none→p=0)→eZ w w.heap.size b c.words→(b=none→q=0)→Calls Tryz.prog 173 #[.agg (af c (.slice a c.cells.length p) (.slice b c.words.length q)),.agg (aa h)] w fun r w'=>bQ w w' x r) :
  Calls Tryz.prog 126 #[.agg (af c (.slice a c.cells.length p) (.slice b c.words.length q)),.agg (aa h)] w fun r w'=>r=.returned (.bool (eH x))∧Below w.heap.size w w':=by
 have H1:=Lib.hid h1
 have H2:=Lib.hid h2
 have Z1:=Lib.hid z1
 have Z2:=Lib.hid z2
 have HS:=Lib.hid hs
 clear h1 h2 z1 z2 hs
 go_enter Tryz.func126,Tryz.ntmps126
 go_wp2_with fail;refine au w zB fun bb=>?_;refine (HS.out _ _ _ _ _ (aT H1 bb) Z1.out (aT H2 bb) Z2.out).mono ?_;rintro _ w9 ⟨⟨y1,y2,rfl,aO,aQ,dH,dF⟩,eX⟩;obtain ⟨tT,jd,zz⟩:=Bj bb eX (b:=w.heap.size);(try simp at jd);(try simp [go_sem] at zz);replace bX:=xU zz;clear zz eX bb
 obtain ⟨ya,yp,rfl,_⟩:=aO.seg
 obtain ⟨yb,yq,rfl,_⟩:=aQ.seg
 cases hx:x.2.2 with
 | true =>
  go_wp2
  go_ret
  exact ⟨by simp [eH,hx],by exact zB⟩
 | false =>
  go_wp2
  go_ret
  exact ⟨by simp [eH,hx],by exact zB⟩
end
section
def iU (x:Wo) (i:Nat):Bool:=(dn x (i:Int)).pos == 23 && eH (gM x.ch (dn x (i:Int)))
def eQ (x:Wo):Nat→List Int
 | 0=>[]
 | k+1=>if iU x k then eQ x k ++ [(k:Int)] else eQ x k
def cB (x:Wo):List Int:=if dU x then eQ x x.hands.length else []
def fV (x:Wo):Nat→Bool
 | 0=>true
 | k+1=>fV x k && ((dn x (k:Int)).pos == 0 || iU x k)
def quietIn (x:Wo):Bool:=dU x && fV x x.hands.length
def iy (x:Wo) (l:List Int):Nat:=(l.filter fun i=>(dn x i).code == 1).length
def ja (x:Wo) (l:List Int):Nat:=(l.filter fun i=>!((dn x i).code == 1)).length
def jB (x:Wo):Bool:=quietIn x && (decide (((keptIn x.ch).length:Int)≤x.ch.cap) && ((iy x (cB x) == 0 || ((keptIn x.ch).length:Int) == x.ch.cap) && (ja x (cB x) == 0 || ((keptIn x.ch).length == 0 && iy x (cB x) == 0))))
end
end Go.Proofs.YtffhjmepfojhnaaGreat
