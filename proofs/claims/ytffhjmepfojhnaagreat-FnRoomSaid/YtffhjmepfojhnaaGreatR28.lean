/-
  The beginning of growing, of the reference model, on hands and channels that are kept whole; lists lie in memory and hold at most 2 ^ 40 elements.
-/
import Derived.Test.YtffhjmepfojhnaaGreatR17
import Derived.BigRegion
import Derived.Test.YtffhjmepfojhnaaGreatR13
import Derived.Test.YtffhjmepfojhnaaGreatR27
import Derived.Test.YtffhjmepfojhnaaGreatR20
set_option maxRecDepth 100000
set_option maxHeartbeats 4000000
set_option linter.unusedSimpArgs false
set_option linter.unusedVariables false
namespace Go.Proofs.YtffhjmepfojhnaaGreat
section
open Go.RowKit
attribute [local simp] aC
attribute [local go_sem ↓] aB aU aL bB aM bC aG aN au aF
theorem BQ (c:Ch) (h:Ha):(gF c h).1.cells=c.cells:=by unfold gF;split <;> rfl
theorem BR (c:Ch) (h:Ha):(gF c h).1.words=c.words:=by unfold gF;split <;> rfl
theorem BS (c:Ch) (h:Ha) (a1 a2:Option Addr) (n1 n2 q1 q2:Nat) (w:World) (hf:0≤c.fin∧c.fin≤40) :
  Calls Tryz.prog 208 #[.agg (af c (.slice a1 n1 q1) (.slice a2 n2 q2)),.agg (aa h)] w fun r w'=>r=.returned (.tuple #[.agg (af (gF c h).1 (.slice a1 n1 q1) (.slice a2 n2 q2)),.agg (aa (gF c h).2)])∧Below w.heap.size w w':=by
 by_cases hc:c.cap=0∨c.fin=40
 ·rw [show gF c h=(c,dC h) by unfold gF;rw [if_pos (by simpa using hc)]]
  have hc2:(c.cap == 0)=true∨((c.cap == 0)=false∧(c.fin == 40)=true):=by
   by_cases h0:c.cap=0
   ·exact .inl (by simpa using h0)
   ·exact .inr ⟨by simpa using h0,by simpa [h0] using hc⟩
  clear hc
  rcases hc2 with hc2|⟨hc2,hc3⟩
  all_goals go_enter Tryz.func208,Tryz.ntmps208
  all_goals go_wp2_with fail
  all_goals go_region_with (first|((go_at_call 209;refine ax w zB fun bb=>?_;refine (iN _ _).mono ?_;rintro _ w1 ⟨rfl,ah⟩;obtain ⟨aW,ay,zz⟩:=dZ bb ah (b:=w.heap.size);(try simp at ay);(try simp [go_sem] at zz);replace bX:=dF zz;clear zz;have dG:=aW;clear ah bb)))
  all_goals go_wp2
  all_goals exact bodyPost_ret (pQ Tryz.results208 rfl (az c (.slice a1 n1 q1) (.slice a2 n2 q2) tY) rfl (aj (dC h) tY)) rfl ⟨rfl,by exact zB⟩
 ·have hc0:(c.cap == 0)=false:=by simp;omega
  have hc1:(c.fin == 40)=false:=by simp;omega
  rw [show gF c h=({ c with fin:=c.fin+1 },{ h with grow:=c.fin,pos:=17 }) by unfold gF;rw [if_neg (by simpa using hc)]]
  clear hc
  go_enter Tryz.func208,Tryz.ntmps208
  go_wp2_with fail
  go_region
  all_goals go_wp2
  all_goals exact bodyPost_ret (pQ Tryz.results208 rfl (az { c with fin:=c.fin+1 } (.slice a1 n1 q1) (.slice a2 n2 q2) tZ) rfl (aj { h with grow:=c.fin,pos:=17 } tZ)) rfl ⟨rfl,by exact zB⟩
end
section
open Go.RowKit
attribute [local simp] aC
attribute [local go_sem ↓] aB aU aL bB aM bC aG aN au aF
theorem uR (c:Ch) (h:Ha) (v1 v2:Value) (lo:Nat) (w:World) (h1:ag w lo v1 c.cells) (h2:ai w lo v2 c.words) (hc0:0≤h.grow) (hc1:h.grow<c.cells.length) (hs:(h.seen == 3)=true) (hs2:(h.seen == 0)=false) :
    (∀ (ht:bn c h.grow h.seen 6 h.wait=true),Calls Tryz.prog 211 #[.agg (af c v1 v2),.agg (aa h)] w fun r w'=>cz w w' lo v1 v2 (gz c h) r) ∧
    (∀ (ht:bn c h.grow h.seen 6 h.wait=false),Calls Tryz.prog 211 #[.agg (af c v1 v2),.agg (aa h)] w fun r w'=>cz w w' lo v1 v2 (gz c h) r):=by
  constructor
  case' left =>
    intro ht
    have mA:Hid (0=0):=rfl
  case' right =>
    intro ht
    have mB:Hid (0=0):=rfl
  all_goals
    obtain ⟨i,hci⟩:∃ i:Nat,h.grow=(i:Int):=⟨h.grow.toNat,by omega⟩
    have hi:i<c.cells.length:=by omega
    first
    | (replace mA:=mA
       have ht2:bn c i h.seen 6 h.wait=true:=by rw [← ht,hci]
       have e:gz c h=done (aY c i h.seen 6 h.wait) ({ h with pos:=20,grow:=(i:Int) }):=by simp at hs hs2;simp [gz,kS,hs,hs2,hci] at ht2 ⊢;simp [ht2])
    | (replace mB:=mB
       have ht2:bn c i h.seen 6 h.wait=false:=by rw [← ht,hci]
       have e:gz c h=done (aY c i h.seen 6 h.wait) ({ h with pos:=18,grow:=(i:Int) }):=by simp at hs hs2;simp [gz,kS,hs,hs2,hci] at ht2 ⊢;simp [ht2])
    rw [e]
    have T:=Lib.hid fun W a b=>iW c i h.seen 6 h.wait v1 v2 lo W a b hi
    first
    | (replace mA:=mA
       have D:=Lib.hid fun W=>bE (aY c i h.seen 6 h.wait) ({ h with pos:=20,grow:=(i:Int) }) v1 v2 lo W
       generalize done (aY c i h.seen 6 h.wait) ({ h with pos:=20,grow:=(i:Int) })=x at *)
    | (replace mB:=mB
       have D:=Lib.hid fun W=>bE (aY c i h.seen 6 h.wait) ({ h with pos:=18,grow:=(i:Int) }) v1 v2 lo W
       generalize done (aY c i h.seen 6 h.wait) ({ h with pos:=18,grow:=(i:Int) })=x at *)
    rw [ht2] at T
    have b1:=jF h1
    have b2:=jF h2
    have m1:=mG b1
    have m2:=mG b2
    have m10:=m1 (w.heap.size) tO
    have m20:=m2 (w.heap.size) tO
    have m11:=m1 (w.heap.size+1) tO
    have m21:=m2 (w.heap.size+1) tO
    have m12:=m1 (w.heap.size+1+1) tO
    have m22:=m2 (w.heap.size+1+1) tO
    have m13:=m1 (w.heap.size+1+1+1) tO
    have m23:=m2 (w.heap.size+1+1+1) tO
    have o1:=h1
    have o2:=h2
    obtain ⟨a1,q1,e1,_⟩:=h1.seg
    obtain ⟨a2,q2,e2,_⟩:=h2.seg
    subst e1 e2
    clear h1 h2 e ht
    go_enter Tryz.func211,Tryz.ntmps211
    go_wp2_with fail;refine ax w zB fun bb=>?_;refine (iN _ _).mono ?_;rintro _ w4 ⟨rfl,dY⟩;have jG:Below w.heap.size w w4:=bT bb dY;have iw:=dY.size;(try simp at iw);have zz:=q4 dY (b:=w.heap.size);(try simp [go_sem] at zz);(try clear aA bK bL aR);(try clear aH cB cK bq);(try clear bz di dz bZ);(try clear dw dV eD dJ);obtain ⟨aA,aH,bz,dw⟩:=zz;obtain ⟨bK,bL,aR⟩:=bO aA;obtain ⟨cB,cK,bq⟩:=bO aH;obtain ⟨di,dz,bZ⟩:=bO bz;obtain ⟨dV,eD,dJ⟩:=bO dw;clear dY bb
    have o3:=own_below o1 jG
    have o4:=own_below o2 jG
    have m14:=m1 w4.heap.size tO
    have m24:=m2 w4.heap.size tO
    have Eu:w4.heap.size<w4.heap.size+1:=by omega
    obtain ⟨k0,k1,k2,k3⟩:=kZ (a:=w.heap.size) (b:=w4.heap.size)
    go_wp2_with fail;refine (T.out _ (zO o3 o1) (zO o4 o2)).mono ?_;rintro _ w1 ⟨rfl,p1,p2,hgw1⟩;have ay:=hgw1.size;(try (simp at ay));have zz:=And.intro (dB hgw1 (b:=w4.heap.size) tS (by assumption)) <| And.intro (dB hgw1 (b:=w.heap.size+1+1+1) tS (by assumption)) <| And.intro (dB hgw1 (b:=w.heap.size+1+1) tS (by assumption)) <| And.intro (dB hgw1 (b:=w.heap.size+1) tS (by assumption)) <| dB hgw1 (b:=w.heap.size) tS (by assumption);(first|simp [go_sem,aA,aH,bz,dw,dJ,Eu,bZ,bq,aR,k0,k1,k2,k3] at zz|simp [go_sem] at zz|skip);(try clear K6 Oj Ol Eu);(try clear aA bK bL aR);(try clear aH cB cK bq);(try clear bz di dz bZ);(try clear dw dV eD dJ);obtain ⟨K6,aA,aH,bz,dw⟩:=zz;obtain ⟨Oj,Ol,Eu⟩:=bO K6;obtain ⟨bK,bL,aR⟩:=bO aA;obtain ⟨cB,cK,bq⟩:=bO aH;obtain ⟨di,dz,bZ⟩:=bO bz;obtain ⟨dV,eD,dJ⟩:=bO dw;have jZ:=FV (w:=w) zB hgw1;clear hgw1
    have vw:ik (Value.slice a1 c.cells.length q1).ownBlock (Value.slice a2 c.words.length q2).ownBlock w w1:=lW jZ
    clear k0 k1 k2 k3
    obtain ⟨k0,k1,k2,k3⟩:=kZ (a:=w.heap.size) (b:=w1.heap.size)
    have k4:w4.heap.size<w1.heap.size:=by omega
    have r1:ag w1 lo (.slice a1 c.cells.length q1) (aY c i h.seen 6 h.wait).cells:=p1
    have r2:ai w1 lo (.slice a2 c.words.length q2) (aY c i h.seen 6 h.wait).words:=p2
    go_wp2_with fail
    refine (D.out _ (zO r1 o1) (zO r2 o2)).mono ?_
    rintro _ w3 ⟨⟨y1,y2,rfl,aV,aX,dL,dI⟩,aO⟩
    have hO3:ik (Value.slice a1 c.cells.length q1).ownBlock (Value.slice a2 c.words.length q2).ownBlock w w3:=fu zN (dx aO)
    have df:=aO.size;(try simp at df);have zz:=q4 aO (b:=w.heap.size);(first|simp [go_sem,aA,aH,bz,dw,dJ,bZ,bq,aR,k0,k1,k2,k3,k4] at zz|simp [go_sem] at zz|skip);(try clear aA bK bL aR);(try clear aH cB cK bq);(try clear bz di dz bZ);(try clear dw dV eD dJ);obtain ⟨aA,aH,bz,dw⟩:=zz;obtain ⟨bK,bL,aR⟩:=bO aA;obtain ⟨cB,cK,bq⟩:=bO aH;obtain ⟨di,dz,bZ⟩:=bO bz;obtain ⟨dV,eD,dJ⟩:=bO dw;clear aO
    obtain ⟨⟨aI,aJ⟩,dP,dQ⟩:=sO (w:=w) (w.heap.size+1+1+1+1) dL dI b1 b2;obtain ⟨ya,yp,rfl,_⟩:=aV.seg;obtain ⟨yb,yq,rfl,_⟩:=aX.seg
    go_wp2
    refine rE Tryz.results211 rfl (az x.1 (.slice ya x.1.cells.length yp) (.slice yb x.1.words.length yq) tY) rfl (aj x.2.1 tY) ⟨⟨_,_,rfl,?_,?_,dP,dQ⟩,by exact zN⟩
    · exact zP aV aV aI
    · exact zP aX aX aJ
theorem H7 (c:Ch) (h:Ha) (v1 v2:Value) (lo:Nat) (w:World) (h1:ag w lo v1 c.cells) (h2:ai w lo v2 c.words) (hc0:0≤h.grow) (hc1:h.grow<c.cells.length) (hs:(h.seen == 3)=true) (hs2:(h.seen == 0)=false) (ht:bn c h.grow h.seen 6 h.wait=true) :
    Calls Tryz.prog 211 #[.agg (af c v1 v2),.agg (aa h)] w fun r w'=>cz w w' lo v1 v2 (gz c h) r:=(uR c h v1 v2 lo w h1 h2 hc0 hc1 hs hs2).1 ht
theorem H8 (c:Ch) (h:Ha) (v1 v2:Value) (lo:Nat) (w:World) (h1:ag w lo v1 c.cells) (h2:ai w lo v2 c.words) (hc0:0≤h.grow) (hc1:h.grow<c.cells.length) (hs:(h.seen == 3)=true) (hs2:(h.seen == 0)=false) (ht:bn c h.grow h.seen 6 h.wait=false) :
    Calls Tryz.prog 211 #[.agg (af c v1 v2),.agg (aa h)] w fun r w'=>cz w w' lo v1 v2 (gz c h) r:=(uR c h v1 v2 lo w h1 h2 hc0 hc1 hs hs2).2 ht
theorem uS (c:Ch) (h:Ha) (v1 v2:Value) (lo:Nat) (w:World) (h1:ag w lo v1 c.cells) (h2:ai w lo v2 c.words) (hc0:0≤h.grow) (hc1:h.grow<c.cells.length) (hs:(h.seen == 3)=false) (hs2:(h.seen == 0)=true) :
    (∀ (ht:bn c h.grow h.seen 1 0=true),Calls Tryz.prog 211 #[.agg (af c v1 v2),.agg (aa h)] w fun r w'=>cz w w' lo v1 v2 (gz c h) r) ∧
    (∀ (ht:bn c h.grow h.seen 1 0=false),Calls Tryz.prog 211 #[.agg (af c v1 v2),.agg (aa h)] w fun r w'=>cz w w' lo v1 v2 (gz c h) r):=by
  constructor
  case' left =>
    intro ht
    have mA:Hid (0=0):=rfl
  case' right =>
    intro ht
    have mB:Hid (0=0):=rfl
  all_goals
    obtain ⟨i,hci⟩:∃ i:Nat,h.grow=(i:Int):=⟨h.grow.toNat,by omega⟩
    have hi:i<c.cells.length:=by omega
    first
    | (replace mA:=mA
       have ht2:bn c i h.seen 1 0=true:=by rw [← ht,hci]
       have e:gz c h=done (aY c i h.seen 1 0) (dC h):=by simp at hs hs2;simp [gz,kS,hs,hs2,hci] at ht2 ⊢;simp [ht2])
    | (replace mB:=mB
       have ht2:bn c i h.seen 1 0=false:=by rw [← ht,hci]
       have e:gz c h=done (aY c i h.seen 1 0) ({ h with pos:=18,grow:=(i:Int) }):=by simp at hs hs2;simp [gz,kS,hs,hs2,hci] at ht2 ⊢;simp [ht2])
    rw [e]
    have T:=Lib.hid fun W a b=>iW c i h.seen 1 0 v1 v2 lo W a b hi
    first
    | (replace mA:=mA
       have D:=Lib.hid fun W=>bE (aY c i h.seen 1 0) (dC h) v1 v2 lo W
       generalize done (aY c i h.seen 1 0) (dC h)=x at *)
    | (replace mB:=mB
       have D:=Lib.hid fun W=>bE (aY c i h.seen 1 0) ({ h with pos:=18,grow:=(i:Int) }) v1 v2 lo W
       generalize done (aY c i h.seen 1 0) ({ h with pos:=18,grow:=(i:Int) })=x at *)
    rw [ht2] at T
    have b1:=jF h1
    have b2:=jF h2
    have m1:=mG b1
    have m2:=mG b2
    have m10:=m1 (w.heap.size) tO
    have m20:=m2 (w.heap.size) tO
    have m11:=m1 (w.heap.size+1) tO
    have m21:=m2 (w.heap.size+1) tO
    have m12:=m1 (w.heap.size+1+1) tO
    have m22:=m2 (w.heap.size+1+1) tO
    have m13:=m1 (w.heap.size+1+1+1) tO
    have m23:=m2 (w.heap.size+1+1+1) tO
    have o1:=h1
    have o2:=h2
    obtain ⟨a1,q1,e1,_⟩:=h1.seg
    obtain ⟨a2,q2,e2,_⟩:=h2.seg
    subst e1 e2
    clear h1 h2 e ht
    go_enter Tryz.func211,Tryz.ntmps211
    go_wp2_with fail;refine ax w zB fun bb=>?_;refine (iN _ _).mono ?_;rintro _ w4 ⟨rfl,dY⟩;have jG:Below w.heap.size w w4:=bT bb dY;have iw:=dY.size;(try simp at iw);have zz:=q4 dY (b:=w.heap.size);(try simp [go_sem] at zz);(try clear aA bK bL aR);(try clear aH cB cK bq);(try clear bz di dz bZ);(try clear dw dV eD dJ);obtain ⟨aA,aH,bz,dw⟩:=zz;obtain ⟨bK,bL,aR⟩:=bO aA;obtain ⟨cB,cK,bq⟩:=bO aH;obtain ⟨di,dz,bZ⟩:=bO bz;obtain ⟨dV,eD,dJ⟩:=bO dw;clear dY bb
    have o3:=own_below o1 jG
    have o4:=own_below o2 jG
    have m14:=m1 w4.heap.size tO
    have m24:=m2 w4.heap.size tO
    have Eu:w4.heap.size<w4.heap.size+1:=by omega
    obtain ⟨k0,k1,k2,k3⟩:=kZ (a:=w.heap.size) (b:=w4.heap.size)
    go_wp2_with fail;refine (T.out _ (zO o3 o1) (zO o4 o2)).mono ?_;rintro _ w1 ⟨rfl,p1,p2,hgw1⟩;have ay:=hgw1.size;(try (simp at ay));have zz:=And.intro (dB hgw1 (b:=w4.heap.size) tS (by assumption)) <| And.intro (dB hgw1 (b:=w.heap.size+1+1+1) tS (by assumption)) <| And.intro (dB hgw1 (b:=w.heap.size+1+1) tS (by assumption)) <| And.intro (dB hgw1 (b:=w.heap.size+1) tS (by assumption)) <| dB hgw1 (b:=w.heap.size) tS (by assumption);(first|simp [go_sem,aA,aH,bz,dw,dJ,Eu,bZ,bq,aR,k0,k1,k2,k3] at zz|simp [go_sem] at zz|skip);(try clear K6 Oj Ol Eu);(try clear aA bK bL aR);(try clear aH cB cK bq);(try clear bz di dz bZ);(try clear dw dV eD dJ);obtain ⟨K6,aA,aH,bz,dw⟩:=zz;obtain ⟨Oj,Ol,Eu⟩:=bO K6;obtain ⟨bK,bL,aR⟩:=bO aA;obtain ⟨cB,cK,bq⟩:=bO aH;obtain ⟨di,dz,bZ⟩:=bO bz;obtain ⟨dV,eD,dJ⟩:=bO dw;have jZ:=FV (w:=w) zB hgw1;clear hgw1
    have vw:ik (Value.slice a1 c.cells.length q1).ownBlock (Value.slice a2 c.words.length q2).ownBlock w w1:=lW jZ
    clear k0 k1 k2 k3
    obtain ⟨k0,k1,k2,k3⟩:=kZ (a:=w.heap.size) (b:=w1.heap.size)
    have k4:w4.heap.size<w1.heap.size:=by omega
    have r1:ag w1 lo (.slice a1 c.cells.length q1) (aY c i h.seen 1 0).cells:=p1
    have r2:ai w1 lo (.slice a2 c.words.length q2) (aY c i h.seen 1 0).words:=p2
    go_wp2_with fail
    refine (D.out _ (zO r1 o1) (zO r2 o2)).mono ?_
    rintro _ w3 ⟨⟨y1,y2,rfl,aV,aX,dL,dI⟩,aO⟩
    have hO3:ik (Value.slice a1 c.cells.length q1).ownBlock (Value.slice a2 c.words.length q2).ownBlock w w3:=fu zN (dx aO)
    have df:=aO.size;(try simp at df);have zz:=q4 aO (b:=w.heap.size);(first|simp [go_sem,aA,aH,bz,dw,dJ,bZ,bq,aR,k0,k1,k2,k3,k4] at zz|simp [go_sem] at zz|skip);(try clear aA bK bL aR);(try clear aH cB cK bq);(try clear bz di dz bZ);(try clear dw dV eD dJ);obtain ⟨aA,aH,bz,dw⟩:=zz;obtain ⟨bK,bL,aR⟩:=bO aA;obtain ⟨cB,cK,bq⟩:=bO aH;obtain ⟨di,dz,bZ⟩:=bO bz;obtain ⟨dV,eD,dJ⟩:=bO dw;clear aO
    obtain ⟨⟨aI,aJ⟩,dP,dQ⟩:=sO (w:=w) (w.heap.size+1+1+1+1) dL dI b1 b2;obtain ⟨ya,yp,rfl,_⟩:=aV.seg;obtain ⟨yb,yq,rfl,_⟩:=aX.seg
    go_wp2
    refine rE Tryz.results211 rfl (az x.1 (.slice ya x.1.cells.length yp) (.slice yb x.1.words.length yq) tY) rfl (aj x.2.1 tY) ⟨⟨_,_,rfl,?_,?_,dP,dQ⟩,by exact zN⟩
    · exact zP aV aV aI
    · exact zP aX aX aJ
theorem H9 (c:Ch) (h:Ha) (v1 v2:Value) (lo:Nat) (w:World) (h1:ag w lo v1 c.cells) (h2:ai w lo v2 c.words) (hc0:0≤h.grow) (hc1:h.grow<c.cells.length) (hs:(h.seen == 3)=false) (hs2:(h.seen == 0)=true) (ht:bn c h.grow h.seen 1 0=true) :
    Calls Tryz.prog 211 #[.agg (af c v1 v2),.agg (aa h)] w fun r w'=>cz w w' lo v1 v2 (gz c h) r:=(uS c h v1 v2 lo w h1 h2 hc0 hc1 hs hs2).1 ht
theorem Ia (c:Ch) (h:Ha) (v1 v2:Value) (lo:Nat) (w:World) (h1:ag w lo v1 c.cells) (h2:ai w lo v2 c.words) (hc0:0≤h.grow) (hc1:h.grow<c.cells.length) (hs:(h.seen == 3)=false) (hs2:(h.seen == 0)=true) (ht:bn c h.grow h.seen 1 0=false) :
    Calls Tryz.prog 211 #[.agg (af c v1 v2),.agg (aa h)] w fun r w'=>cz w w' lo v1 v2 (gz c h) r:=(uS c h v1 v2 lo w h1 h2 hc0 hc1 hs hs2).2 ht
theorem Ib (c:Ch) (h:Ha) (v1 v2:Value) (lo:Nat) (w:World) (h1:ag w lo v1 c.cells) (h2:ai w lo v2 c.words) (hs:(h.seen == 3)=false) (hs2:(h.seen == 0)=false) :
    cu 211 c h v1 v2 lo w (gz c h):=by
  have e:gz c h=nothing:=by simp at hs hs2;simp [gz,hs,hs2]
  rw [e]
  have T:=Lib.hid (gH · lo v1 v2)
  generalize nothing=x at *
  have b1:=jF h1
  have b2:=jF h2
  have m1:=mG b1
  have m2:=mG b2
  have m10:=m1 (w.heap.size) tO
  have m20:=m2 (w.heap.size) tO
  have m11:=m1 (w.heap.size+1) tO
  have m21:=m2 (w.heap.size+1) tO
  have m12:=m1 (w.heap.size+1+1) tO
  have m22:=m2 (w.heap.size+1+1) tO
  have m13:=m1 (w.heap.size+1+1+1) tO
  have m23:=m2 (w.heap.size+1+1+1) tO
  have o1:=h1
  have o2:=h2
  obtain ⟨a1,q1,e1,_⟩:=h1.seg
  obtain ⟨a2,q2,e2,_⟩:=h2.seg
  subst e1 e2
  clear h1 h2 e
  go_enter Tryz.func211,Tryz.ntmps211
  go_wp2_with fail;refine ax w zB fun bb=>?_;refine (iN _ _).mono ?_;rintro _ w4 ⟨rfl,dY⟩;obtain ⟨jG,iw,zz⟩:=dZ bb dY (b:=w.heap.size);(try simp at iw);(try simp [go_sem] at zz);replace bX:=dF zz;clear zz dY bb
  go_wp2_with fail;refine ax w zB fun bb=>?_;refine (T.out _).mono ?_;rintro _ w1 ⟨⟨y1,y2,rfl,aV,aX,dL,dI⟩,ah⟩;obtain ⟨aW,ay,zz⟩:=dZ bb ah (b:=w.heap.size);(try simp at ay);(first|simp [go_sem,bX] at zz|simp [go_sem] at zz|skip);replace bX:=dF zz;clear zz ah bb
  obtain ⟨⟨aI,aJ⟩,dP,dQ⟩:=sO (w:=w) (w.heap.size+1+1+1+1) dL dI b1 b2;obtain ⟨ya,yp,rfl,_⟩:=aV.seg;obtain ⟨yb,yq,rfl,_⟩:=aX.seg
  go_wp2
  refine rE Tryz.results211 rfl (az x.1 (.slice ya x.1.cells.length yp) (.slice yb x.1.words.length yq) tY) rfl (aj x.2.1 tY) ⟨⟨_,_,rfl,?_,?_,dP,dQ⟩,dx zB⟩
  · exact zP aV aV aI
  · exact zP aX aX aJ
theorem Ev (c:Ch) (h:Ha) (v1 v2:Value) (lo:Nat) (w:World) (h1:ag w lo v1 c.cells) (h2:ai w lo v2 c.words) (hc0:0≤h.grow) (hc1:h.grow<c.cells.length) :
    cu 211 c h v1 v2 lo w (gz c h):=by
  by_cases s3:h.seen=3
  · cases ht:bn c h.grow h.seen 6 h.wait with
    | true=>exact H7 c h v1 v2 lo w h1 h2 hc0 hc1 (by simpa using s3) (by simp [s3]) ht
    | false=>exact H8 c h v1 v2 lo w h1 h2 hc0 hc1 (by simpa using s3) (by simp [s3]) ht
  · by_cases s0:h.seen=0
    · cases ht:bn c h.grow h.seen 1 0 with
      | true=>exact H9 c h v1 v2 lo w h1 h2 hc0 hc1 (by simpa using s3) (by simpa using s0) ht
      | false=>exact Ia c h v1 v2 lo w h1 h2 hc0 hc1 (by simpa using s3) (by simpa using s0) ht
    · exact Ib c h v1 v2 lo w h1 h2 (by simpa using s3) (by simpa using s0)
end
section
open Go.RowKit
attribute [local simp] aC
attribute [local go_sem ↓] aB aU aL bB aM bC aG aN au aF
theorem K7 (c:Ch) (h:Ha) (a b:Option Addr) (p q:Nat) (w:World) (h1:eY w w.heap.size a c.cells) (z1:a=none→p=0) (h2:eQ w w.heap.size b c.words) (z2:b=none→q=0) (hk:bf c h 16 22 2=true) (hp0:h.pos=16) :
  Calls Tryz.prog 191 #[.agg (af c (.slice a c.cells.length p) (.slice b c.words.length q)),.agg (aa h)] w fun r w'=>bV w w' (bH c h) r:=by
 obtain ⟨k1,k2,_,_⟩:=bQ hk
 obtain ⟨n1,n2⟩:=dU k1
 have m1:c.cells.length≤1099511627776:=by omega
 have m2:c.words.length≤1099511627776:=by omega
 have H1:=Lib.hid h1
 have H2:=Lib.hid h2
 have Z1:=Lib.hid z1
 have Z2:=Lib.hid z2
 have e:bH c h=done (gF c h).1 (gF c h).2:=by simp [bH,hk,hp0]
 rw [e]
 have hfin:0≤c.fin∧c.fin≤40:=Kc k1
 have K:=fun a1 a2 n1 n2 q1 q2 W=>BS c h a1 a2 n1 n2 q1 q2 W hfin
 have D:=fun v1 v2 W=>bE (gF c h).1 (gF c h).2 v1 v2 w.heap.size W
 rw [BQ,BR] at D
 generalize done (gF c h).1 (gF c h).2=x at *
 generalize (gF c h).1=cb at *
 generalize (gF c h).2=hb at *
 replace K:=Lib.hid K
 replace D:=Lib.hid D
 clear h1 h2 z1 z2 e k1 k2 n1 n2
 go_enter Tryz.func191,Tryz.ntmps191
 go_wp2_with fail;refine ax w zB fun bb=>?_;refine (d9 c h 16 22 2 a b p q _ (aT H1 bb) (aT H2 bb)).mono ?_;rintro _ w1 ⟨rfl,ah⟩;obtain ⟨aW,ay,zz⟩:=dZ bb ah (b:=w.heap.size);(try simp at ay);(try simp [go_sem] at zz);replace bX:=dF zz;clear zz ah bb
 rw [hk]
 go_wp2_with fail;refine ax w zB fun bb=>?_;refine (dA c a b p q _ (aT H1 bb) Z1.out (aT H2 bb) Z2.out m1 m2).mono ?_;rintro _ w2 ⟨⟨v1,v2,rfl,o1,o2⟩,hbw2⟩;obtain ⟨dE,bu,zz⟩:=dZ bb hbw2 (b:=w.heap.size);(try simp at bu);(first|simp [go_sem,bX] at zz|simp [go_sem] at zz|skip);replace bX:=dF zz;clear zz hbw2 bb
 have d1:=jd o1 (w.heap.size+1+1+1+1)
 have d2:=jd o2 (w.heap.size+1+1+1+1)
 have p1:=av (lo':=w.heap.size) o1 tO
 have p2:=av (lo':=w.heap.size) o2 tO
 obtain ⟨a1,q1,rfl,_⟩:=o1.seg
 obtain ⟨a2,q2,rfl,_⟩:=o2.seg
 obtain ⟨k0,k1,k2,k3⟩:=kZ (a:=w.heap.size) (b:=w2.heap.size)
 go_wp2_with fail;refine ax w zB fun bb=>?_;refine ax w2 zB fun bk=>?_;refine (K.out _ _ _ _ _ _ _).mono ?_;rintro _ w4 ⟨rfl,dY⟩;have jG:=bT bb dY;have iw:=dY.size;(try simp at iw);have zz:=And.intro (hQ dY (b:=w2.heap.size)) <| And.intro (hQ dY (b:=w.heap.size+1+1+1)) <| And.intro (hQ dY (b:=w.heap.size+1+1)) <| And.intro (hQ dY (b:=w.heap.size+1)) <| hQ dY (b:=w.heap.size);(first|simp [go_sem,bX,k0,k1,k2,k3] at zz|simp [go_sem] at zz|skip);replace bX:=jL zz;clear zz;have ow:=bT bk dY;clear dY bb bk
 have s1:=own_below p1 ow
 have s2:=own_below p2 ow
 go_wp2_with fail;refine ax w zB fun bb=>?_;refine (D.out _ _ _ (zO s1 o1) (zO s2 o2)).mono ?_;rintro _ w3 ⟨⟨y1,y2,rfl,aV,aX,dL,dI⟩,aO⟩;obtain ⟨ig,df,zz⟩:=dZ bb aO (b:=w.heap.size);(try simp at df);(first|simp [go_sem,bX,k0,k1,k2,k3] at zz|simp [go_sem] at zz|skip);replace bX:=dF zz;clear zz aO bb
 obtain ⟨⟨aI,aJ⟩,dP,dQ⟩:=lL (w:=w) (w.heap.size+1+1+1+1) dL dI d1 d2;obtain ⟨ya,yp,rfl,_⟩:=aV.seg;obtain ⟨yb,yq,rfl,_⟩:=aX.seg
 go_wp2
 refine rE Tryz.results191 rfl (az x.1 (.slice ya x.1.cells.length yp) (.slice yb x.1.words.length yq) tY) rfl (aj x.2.1 tY) ⟨⟨_,_,rfl,?_,?_,dP,dQ⟩,by exact zB⟩
 ·exact zP aV aV aI
 ·exact zP aX aX aJ
theorem K8 (c:Ch) (h:Ha) (a b:Option Addr) (p q:Nat) (w:World) (h1:eY w w.heap.size a c.cells) (z1:a=none→p=0) (h2:eQ w w.heap.size b c.words) (z2:b=none→q=0) (hk:bf c h 16 22 2=true) (hp0:h.pos=19) :
  Calls Tryz.prog 191 #[.agg (af c (.slice a c.cells.length p) (.slice b c.words.length q)),.agg (aa h)] w fun r w'=>bV w w' (bH c h) r:=by
 obtain ⟨k1,k2,_,_⟩:=bQ hk
 obtain ⟨n1,n2⟩:=dU k1
 have m1:c.cells.length≤1099511627776:=by omega
 have m2:c.words.length≤1099511627776:=by omega
 have H1:=Lib.hid h1
 have H2:=Lib.hid h2
 have Z1:=Lib.hid z1
 have Z2:=Lib.hid z2
 obtain ⟨c1,c2⟩:=mO k2
 have e:bH c h=gz c h:=by simp [bH,hk,hp0]
 rw [e]
 have D:=Lib.hid fun v1 v2 W x1 x2=>Ev c h v1 v2 w.heap.size W x1 x2 c1 tO
 generalize gz c h=x at *
 clear h1 h2 z1 z2 e k1 k2 n1 n2 c1 c2
 go_enter Tryz.func191,Tryz.ntmps191
 go_wp2_with fail;refine ax w zB fun bb=>?_;refine (d9 c h 16 22 2 a b p q _ (aT H1 bb) (aT H2 bb)).mono ?_;rintro _ w1 ⟨rfl,ah⟩;obtain ⟨aW,ay,zz⟩:=dZ bb ah (b:=w.heap.size);(try simp at ay);(try simp [go_sem] at zz);replace bX:=dF zz;clear zz ah bb
 rw [hk]
 go_wp2_with fail;refine ax w zB fun bb=>?_;refine (dA c a b p q _ (aT H1 bb) Z1.out (aT H2 bb) Z2.out m1 m2).mono ?_;rintro _ w2 ⟨⟨v1,v2,rfl,o1,o2⟩,hbw2⟩;obtain ⟨dE,bu,zz⟩:=dZ bb hbw2 (b:=w.heap.size);(try simp at bu);(first|simp [go_sem,bX] at zz|simp [go_sem] at zz|skip);replace bX:=dF zz;clear zz hbw2 bb
 have d1:=jd o1 (w.heap.size+1+1+1+1)
 have d2:=jd o2 (w.heap.size+1+1+1+1)
 have p1:=av (lo':=w.heap.size) o1 tO
 have p2:=av (lo':=w.heap.size) o2 tO
 obtain ⟨a1,q1,rfl,_⟩:=o1.seg
 obtain ⟨a2,q2,rfl,_⟩:=o2.seg
 have m3:∀ j,j<w.heap.size+1+1+1+1→some j≠(Value.slice a1 c.cells.length q1).ownBlock:=fun j hj e=>by have:=d1 _ e.symm;omega
 have m4:∀ j,j<w.heap.size+1+1+1+1→some j≠(Value.slice a2 c.words.length q2).ownBlock:=fun j hj e=>by have:=d2 _ e.symm;omega
 have m10:=m3 (w.heap.size) tO
 have m20:=m4 (w.heap.size) tO
 have m11:=m3 (w.heap.size+1) tO
 have m21:=m4 (w.heap.size+1) tO
 have m12:=m3 (w.heap.size+1+1) tO
 have m22:=m4 (w.heap.size+1+1) tO
 have m13:=m3 (w.heap.size+1+1+1) tO
 have m23:=m4 (w.heap.size+1+1+1) tO
 go_wp2_with fail
 refine (D.out _ _ _ (zO p1 o1) (zO p2 o2)).mono ?_
 rintro _ w3 ⟨⟨y1,y2,rfl,aV,aX,dL,dI⟩,hO⟩
 have hB3:Below w.heap.size w w3:=FU zB hO (fun j hj=>by have:=d1 j hj;omega) (fun j hj=>by have:=d2 j hj;omega)
 have df:=hO.2.2.2.1;(try (simp at df));have zz:=vE hO (b:=w.heap.size);(first|simp [go_sem,bX] at zz|simp [go_sem] at zz|skip);replace bX:=dF zz;clear zz
 clear hO
 obtain ⟨⟨aI,aJ⟩,dP,dQ⟩:=lL (w:=w) (w.heap.size+1+1+1+1) dL dI d1 d2;obtain ⟨ya,yp,rfl,_⟩:=aV.seg;obtain ⟨yb,yq,rfl,_⟩:=aX.seg
 go_wp2
 refine rE Tryz.results191 rfl (az x.1 (.slice ya x.1.cells.length yp) (.slice yb x.1.words.length yq) tY) rfl (aj x.2.1 tY) ⟨⟨_,_,rfl,?_,?_,dP,dQ⟩,by exact zB⟩
 ·exact zP aV aV aI
 ·exact zP aX aX aJ
theorem wC (c:Ch) (h:Ha) (a b:Option Addr) (p q:Nat) (w:World) (h1:eY w w.heap.size a c.cells) (z1:a=none→p=0) (h2:eQ w w.heap.size b c.words) (z2:b=none→q=0) :
  Calls Tryz.prog 191 #[.agg (af c (.slice a c.cells.length p) (.slice b c.words.length q)),.agg (aa h)] w fun r w'=>bV w w' (bH c h) r:=by
 cases hk:bf c h 16 22 2 with
 | false=>exact K3 c h a b p q w h1 h2 hk
 | true =>
  obtain ⟨k1,_,k3,k4⟩:=bQ hk
  have hp:h.pos=16∨h.pos=17∨h.pos=18∨h.pos=19∨h.pos=20∨h.pos=21∨h.pos=22:=by omega
  rcases hp with hp|hp|hp|hp|hp|hp|hp
  ·exact K7 c h a b p q w h1 z1 h2 z2 hk hp
  ·by_cases hs:c.sent≤h.grow
   ·exact Hu c h a b p q w h1 z1 h2 z2 hk hp hs
   ·exact Hw c h a b p q w h1 z1 h2 z2 hk hp hs
  ·by_cases hs:(cellAt c h.grow).s=5
   ·exact H5 c h a b p q w h1 z1 h2 z2 hk hp hs
   ·exact H6 c h a b p q w h1 z1 h2 z2 hk hp (by simpa using hs)
  ·exact K8 c h a b p q w h1 z1 h2 z2 hk hp
  ·cases ht:fo c h.wait 1 with
   | true=>exact Hy c h a b p q w h1 z1 h2 z2 hk hp ht
   | false=>exact Hz c h a b p q w h1 z1 h2 z2 hk hp ht
  ·exact K4 c h a b p q w h1 z1 h2 z2 hk hp
  ·exact K5 c h a b p q w h1 z1 h2 z2 hk hp
end
section
open Go.RowKit
attribute [local simp] aC
attribute [local go_sem ↓] aB aU aL bB aM bC aG aN au aF
theorem Nb (c:Ch) (h:Ha) (a b:Option Addr) (p q:Nat) (w:World) (h1:eY w w.heap.size a c.cells) (z1:a=none→p=0) (h2:eQ w w.heap.size b c.words) (z2:b=none→q=0) (hp1:1≤h.pos) (hp2:h.pos≤8) :
  Calls Tryz.prog 173 #[.agg (af c (.slice a c.cells.length p) (.slice b c.words.length q)),.agg (aa h)] w fun r w'=>bV w w' (iH c h) r:=by
 have e:iH c h=aZ c h:=by simp [iH,dm,hp1,hp2]
 rw [e]
 have H1:=Lib.hid h1
 have H2:=Lib.hid h2
 have Z1:=Lib.hid z1
 have Z2:=Lib.hid z2
 have T:=Lib.hid fun W=>vM c h a b p q W
 generalize aZ c h=x at *
 clear h1 h2 z1 z2 e
 have d1:∀ j,(Value.slice none 0 0).ownBlock=some j→w.heap.size+1+1+1+1≤j:=fun j hj=>by cases hj
 have d2:=d1
 go_enter Tryz.func173,Tryz.ntmps173
 go_wp2_with fail;refine ax w zB fun bb=>?_;refine (T.out _ (aT H1 bb) Z1.out (aT H2 bb) Z2.out).mono ?_;rintro _ w2 ⟨⟨y1,y2,rfl,aV,aX,dL,dI⟩,hbw2⟩;obtain ⟨dE,bu,zz⟩:=dZ bb hbw2 (b:=w.heap.size);(try simp at bu);(try simp [go_sem] at zz);replace bX:=dF zz;clear zz hbw2 bb
 replace aV:ag w2 w.heap.size y1 x.1.cells:=av (lo':=w.heap.size) aV tS
 replace aX:ai w2 w.heap.size y2 x.1.words:=av (lo':=w.heap.size) aX tS
 obtain ⟨⟨aI,aJ⟩,dP,dQ⟩:=lL (w:=w) (w.heap.size+1+1+1+1) dL dI d1 d2;obtain ⟨ya,yp,rfl,_⟩:=aV.seg;obtain ⟨yb,yq,rfl,_⟩:=aX.seg
 go_wp2
 refine rE Tryz.results173 rfl (az x.1 (.slice ya x.1.cells.length yp) (.slice yb x.1.words.length yq) tY) rfl (aj x.2.1 tY) ⟨⟨_,_,rfl,?_,?_,dP,dQ⟩,by exact zB⟩
 ·exact zP aV aV aI
 ·exact zP aX aX aJ
theorem Nc (c:Ch) (h:Ha) (a b:Option Addr) (p q:Nat) (w:World) (h1:eY w w.heap.size a c.cells) (z1:a=none→p=0) (h2:eQ w w.heap.size b c.words) (z2:b=none→q=0) (hp1:9≤h.pos) (hp2:h.pos≤15) :
  Calls Tryz.prog 173 #[.agg (af c (.slice a c.cells.length p) (.slice b c.words.length q)),.agg (aa h)] w fun r w'=>bV w w' (iH c h) r:=by
 have e:iH c h=bg c h:=by rw [iH,if_neg (by simp [dm];omega),if_pos (by simp [dm];omega)]
 rw [e]
 have l1:1≤h.pos:=by omega
 have u8:¬ h.pos≤8:=by omega
 have H1:=Lib.hid h1
 have H2:=Lib.hid h2
 have Z1:=Lib.hid z1
 have Z2:=Lib.hid z2
 have T:=Lib.hid fun W=>vL c h a b p q W
 generalize bg c h=x at *
 clear h1 h2 z1 z2 e
 have d1:∀ j,(Value.slice none 0 0).ownBlock=some j→w.heap.size+1+1+1+1≤j:=fun j hj=>by cases hj
 have d2:=d1
 go_enter Tryz.func173,Tryz.ntmps173
 go_wp2_with fail;refine ax w zB fun bb=>?_;refine (T.out _ (aT H1 bb) Z1.out (aT H2 bb) Z2.out).mono ?_;rintro _ w2 ⟨⟨y1,y2,rfl,aV,aX,dL,dI⟩,hbw2⟩;obtain ⟨dE,bu,zz⟩:=dZ bb hbw2 (b:=w.heap.size);(try simp at bu);(try simp [go_sem] at zz);replace bX:=dF zz;clear zz hbw2 bb
 replace aV:ag w2 w.heap.size y1 x.1.cells:=av (lo':=w.heap.size) aV tS
 replace aX:ai w2 w.heap.size y2 x.1.words:=av (lo':=w.heap.size) aX tS
 obtain ⟨⟨aI,aJ⟩,dP,dQ⟩:=lL (w:=w) (w.heap.size+1+1+1+1) dL dI d1 d2;obtain ⟨ya,yp,rfl,_⟩:=aV.seg;obtain ⟨yb,yq,rfl,_⟩:=aX.seg
 go_wp2
 refine rE Tryz.results173 rfl (az x.1 (.slice ya x.1.cells.length yp) (.slice yb x.1.words.length yq) tY) rfl (aj x.2.1 tY) ⟨⟨_,_,rfl,?_,?_,dP,dQ⟩,by exact zB⟩
 ·exact zP aV aV aI
 ·exact zP aX aX aJ
theorem Nf (c:Ch) (h:Ha) (a b:Option Addr) (p q:Nat) (w:World) (h1:eY w w.heap.size a c.cells) (z1:a=none→p=0) (h2:eQ w w.heap.size b c.words) (z2:b=none→q=0) (hp1:16≤h.pos) (hp2:h.pos≤22) :
  Calls Tryz.prog 173 #[.agg (af c (.slice a c.cells.length p) (.slice b c.words.length q)),.agg (aa h)] w fun r w'=>bV w w' (iH c h) r:=by
 have e:iH c h=bH c h:=by rw [iH,if_neg (by simp [dm];omega),if_neg (by simp [dm];omega),if_pos (by simp [dm];omega)]
 rw [e]
 have l1:1≤h.pos:=by omega
 have l9:9≤h.pos:=by omega
 have u8:¬ h.pos≤8:=by omega
 have VX:¬ h.pos≤15:=by omega
 have H1:=Lib.hid h1
 have H2:=Lib.hid h2
 have Z1:=Lib.hid z1
 have Z2:=Lib.hid z2
 have T:=Lib.hid fun W=>wC c h a b p q W
 generalize bH c h=x at *
 clear h1 h2 z1 z2 e
 have d1:∀ j,(Value.slice none 0 0).ownBlock=some j→w.heap.size+1+1+1+1≤j:=fun j hj=>by cases hj
 have d2:=d1
 go_enter Tryz.func173,Tryz.ntmps173
 go_wp2_with fail;refine ax w zB fun bb=>?_;refine (T.out _ (aT H1 bb) Z1.out (aT H2 bb) Z2.out).mono ?_;rintro _ w2 ⟨⟨y1,y2,rfl,aV,aX,dL,dI⟩,hbw2⟩;obtain ⟨dE,bu,zz⟩:=dZ bb hbw2 (b:=w.heap.size);(try simp at bu);(try simp [go_sem] at zz);replace bX:=dF zz;clear zz hbw2 bb
 replace aV:ag w2 w.heap.size y1 x.1.cells:=av (lo':=w.heap.size) aV tS
 replace aX:ai w2 w.heap.size y2 x.1.words:=av (lo':=w.heap.size) aX tS
 obtain ⟨⟨aI,aJ⟩,dP,dQ⟩:=lL (w:=w) (w.heap.size+1+1+1+1) dL dI d1 d2;obtain ⟨ya,yp,rfl,_⟩:=aV.seg;obtain ⟨yb,yq,rfl,_⟩:=aX.seg
 go_wp2
 refine rE Tryz.results173 rfl (az x.1 (.slice ya x.1.cells.length yp) (.slice yb x.1.words.length yq) tY) rfl (aj x.2.1 tY) ⟨⟨_,_,rfl,?_,?_,dP,dQ⟩,by exact zB⟩
 ·exact zP aV aV aI
 ·exact zP aX aX aJ
theorem Ng (c:Ch) (h:Ha) (a b:Option Addr) (p q:Nat) (w:World) (h1:eY w w.heap.size a c.cells) (z1:a=none→p=0) (h2:eQ w w.heap.size b c.words) (z2:b=none→q=0) (hp1:23≤h.pos) :
  Calls Tryz.prog 173 #[.agg (af c (.slice a c.cells.length p) (.slice b c.words.length q)),.agg (aa h)] w fun r w'=>bV w w' (iH c h) r:=by
 have e:iH c h=bU c h:=by rw [iH,if_neg (by simp [dm];omega),if_neg (by simp [dm];omega),if_neg (by simp [dm];omega)]
 rw [e]
 have l1:1≤h.pos:=by omega
 have l9:9≤h.pos:=by omega
 have VY:16≤h.pos:=by omega
 have u8:¬ h.pos≤8:=by omega
 have VX:¬ h.pos≤15:=by omega
 have u22:¬ h.pos≤22:=by omega
 have H1:=Lib.hid h1
 have H2:=Lib.hid h2
 have Z1:=Lib.hid z1
 have Z2:=Lib.hid z2
 have T:=Lib.hid fun W=>pF c h a b p q W
 generalize bU c h=x at *
 clear h1 h2 z1 z2 e
 have d1:∀ j,(Value.slice none 0 0).ownBlock=some j→w.heap.size+1+1+1+1≤j:=fun j hj=>by cases hj
 have d2:=d1
 go_enter Tryz.func173,Tryz.ntmps173
 go_wp2_with fail;refine ax w zB fun bb=>?_;refine (T.out _ (aT H1 bb) Z1.out (aT H2 bb) Z2.out).mono ?_;rintro _ w2 ⟨⟨y1,y2,rfl,aV,aX,dL,dI⟩,hbw2⟩;obtain ⟨dE,bu,zz⟩:=dZ bb hbw2 (b:=w.heap.size);(try simp at bu);(try simp [go_sem] at zz);replace bX:=dF zz;clear zz hbw2 bb
 replace aV:ag w2 w.heap.size y1 x.1.cells:=av (lo':=w.heap.size) aV tS
 replace aX:ai w2 w.heap.size y2 x.1.words:=av (lo':=w.heap.size) aX tS
 obtain ⟨⟨aI,aJ⟩,dP,dQ⟩:=lL (w:=w) (w.heap.size+1+1+1+1) dL dI d1 d2;obtain ⟨ya,yp,rfl,_⟩:=aV.seg;obtain ⟨yb,yq,rfl,_⟩:=aX.seg
 go_wp2
 refine rE Tryz.results173 rfl (az x.1 (.slice ya x.1.cells.length yp) (.slice yb x.1.words.length yq) tY) rfl (aj x.2.1 tY) ⟨⟨_,_,rfl,?_,?_,dP,dQ⟩,by exact zB⟩
 ·exact zP aV aV aI
 ·exact zP aX aX aJ
theorem Nh (c:Ch) (h:Ha) (a b:Option Addr) (p q:Nat) (w:World) (h1:eY w w.heap.size a c.cells) (z1:a=none→p=0) (h2:eQ w w.heap.size b c.words) (z2:b=none→q=0) (hp1:h.pos≤0) :
  Calls Tryz.prog 173 #[.agg (af c (.slice a c.cells.length p) (.slice b c.words.length q)),.agg (aa h)] w fun r w'=>bV w w' (iH c h) r:=by
 have e:iH c h=bU c h:=by rw [iH,if_neg (by simp [dm];omega),if_neg (by simp [dm];omega),if_neg (by simp [dm];omega)]
 rw [e]
 have l1:¬ 1≤h.pos:=by omega
 have l9:¬ 9≤h.pos:=by omega
 have VY:¬ 16≤h.pos:=by omega
 have H1:=Lib.hid h1
 have H2:=Lib.hid h2
 have Z1:=Lib.hid z1
 have Z2:=Lib.hid z2
 have T:=Lib.hid fun W=>pF c h a b p q W
 generalize bU c h=x at *
 clear h1 h2 z1 z2 e
 have d1:∀ j,(Value.slice none 0 0).ownBlock=some j→w.heap.size+1+1+1+1≤j:=fun j hj=>by cases hj
 have d2:=d1
 go_enter Tryz.func173,Tryz.ntmps173
 go_wp2_with fail;refine ax w zB fun bb=>?_;refine (T.out _ (aT H1 bb) Z1.out (aT H2 bb) Z2.out).mono ?_;rintro _ w2 ⟨⟨y1,y2,rfl,aV,aX,dL,dI⟩,hbw2⟩;obtain ⟨dE,bu,zz⟩:=dZ bb hbw2 (b:=w.heap.size);(try simp at bu);(try simp [go_sem] at zz);replace bX:=dF zz;clear zz hbw2 bb
 replace aV:ag w2 w.heap.size y1 x.1.cells:=av (lo':=w.heap.size) aV tS
 replace aX:ai w2 w.heap.size y2 x.1.words:=av (lo':=w.heap.size) aX tS
 obtain ⟨⟨aI,aJ⟩,dP,dQ⟩:=lL (w:=w) (w.heap.size+1+1+1+1) dL dI d1 d2;obtain ⟨ya,yp,rfl,_⟩:=aV.seg;obtain ⟨yb,yq,rfl,_⟩:=aX.seg
 go_wp2
 refine rE Tryz.results173 rfl (az x.1 (.slice ya x.1.cells.length yp) (.slice yb x.1.words.length yq) tY) rfl (aj x.2.1 tY) ⟨⟨_,_,rfl,?_,?_,dP,dQ⟩,by exact zB⟩
 ·exact zP aV aV aI
 ·exact zP aX aX aJ
theorem Ic (c:Ch) (h:Ha) (a b:Option Addr) (p q:Nat) (w:World) (h1:eY w w.heap.size a c.cells) (z1:a=none→p=0) (h2:eQ w w.heap.size b c.words) (z2:b=none→q=0) :
  Calls Tryz.prog 173 #[.agg (af c (.slice a c.cells.length p) (.slice b c.words.length q)),.agg (aa h)] w fun r w'=>bV w w' (iH c h) r:=by
 have hp:h.pos≤0∨(1≤h.pos∧h.pos≤8)∨(9≤h.pos∧h.pos≤15)∨(16≤h.pos∧h.pos≤22)∨23≤h.pos:=by omega
 rcases hp with hp|⟨hp,hq⟩|⟨hp,hq⟩|⟨hp,hq⟩|hp
 ·exact Nh c h a b p q w h1 z1 h2 z2 hp
 ·exact Nb c h a b p q w h1 z1 h2 z2 hp hq
 ·exact Nc c h a b p q w h1 z1 h2 z2 hp hq
 ·exact Nf c h a b p q w h1 z1 h2 z2 hp hq
 ·exact Ng c h a b p q w h1 z1 h2 z2 hp
end
end Go.Proofs.YtffhjmepfojhnaaGreat
