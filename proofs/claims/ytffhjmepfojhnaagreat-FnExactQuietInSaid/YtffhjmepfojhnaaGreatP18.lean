/-
  Whether a world is right, as the program asks it; the lists lie in memory.
-/
import Derived.Test.YtffhjmepfojhnaaGreatP15
import Derived.Test.YtffhjmepfojhnaaGreatP07
import Derived.Test.YtffhjmepfojhnaaGreatP17
import Derived.Test.YtffhjmepfojhnaaGreatP04
import Derived.Test.YtffhjmepfojhnaaGreatP05
import Derived.BigRegion
import Derived.Test.YtffhjmepfojhnaaGreatP12
import Derived.Test.YtffhjmepfojhnaaGreatP11
set_option maxRecDepth 100000
set_option maxHeartbeats 4000000
set_option linter.unusedSimpArgs false
set_option linter.unusedVariables false
namespace Go.Proofs.YtffhjmepfojhnaaGreat
section
open Go.RowKit
theorem Dj (x:Wo):dU x=(((aG x.ch && dL x.now 0 20000) && lW x.hands x.now) && o5 x.deals x.hands.length x.now):=by
 unfold dU gN lW o5
 cases aG x.ch <;> cases dL x.now 0 20000 <;> cases decide (1≤x.hands.length) <;> cases decide (x.hands.length≤6) <;> cases decide (x.deals.length≤1000) <;> simp
theorem ma (x:Wo) (a b d e:Option Addr) (p q r s:Nat) (w:World) (h:gm w w.heap.size x a b d e) (m:iZ x) :
  Calls Tryz.prog 49 #[zY x a b d e p q r s] w fun r w'=>r=.returned (.bool (dU x))∧Below w.heap.size w w':=by
 rw [Dj]
 obtain ⟨h1,h2,h3,h4⟩:=h
 obtain ⟨m1,m2,m3,m4⟩:=m
 have H1:=Lib.hid h1
 have H2:=Lib.hid h2
 have H3:=Lib.hid h3
 have H4:=Lib.hid h4
 have M1:x.ch.cells.length≤maxLen:=by unfold maxLen;omega
 have M2:x.ch.words.length≤maxLen:=by unfold maxLen;omega
 have M3:x.hands.length≤1099511627776:=by omega
 have M4:x.deals.length≤1099511627776:=by omega
 clear h1 h2 h3 h4 m1 m2 m3 m4
 go_enter Tryz.func49,Tryz.ntmps49
 go_wp2_with (first
  | (go_at_call 98;refine au w zB fun bb=>?_;refine (fF x.ch a b p q _ (aT H1 bb) (aT H2 bb) M1 M2).mono ?_;rintro _ w1 ⟨rfl,ag⟩;have aV:=bT bb ag;have ak:=ag.size;(try simp at ak);have zz:=DV ag (b:=w.heap.size);(try simp [go_sem] at zz);replace bX:=zz;clear zz ag bb)
  | (go_at_call 45;refine (fM _ _ _).mono ?_;rintro _ _ ⟨rfl,rfl⟩)
  | (go_at_call 99;refine au w zB fun bb=>?_;refine (Ac x.hands x.now w.heap.size d r _ (by simp [*]) (by simp [*]) tS (aT H3 bb) M3).mono ?_;rintro _ w2 ⟨rfl,hbw2⟩;have dh:=bT bb hbw2;have aR:=hbw2.size;(try simp at aR);have zz:=DV hbw2 (b:=w.heap.size);(first|simp [go_sem,bX] at zz|simp [go_sem] at zz|skip);replace bX:=zz;clear zz hbw2 bb)
  | (go_at_call 100;refine au w zB fun bb=>?_;refine (Ad x.deals x.hands.length x.now w.heap.size d e r s _ (by simp [*]) (by simp [*]) (by simp [*]) tS (aT H4 bb) M4 M3).mono ?_;rintro _ w3 ⟨rfl,aC⟩;have iG:=bT bb aC;have bM:=aC.size;(try simp at bM);have zz:=DV aC (b:=w.heap.size);(first|simp [go_sem,bX] at zz|simp [go_sem] at zz|skip);replace bX:=zz;clear zz aC bb))
 all_goals go_ret
 all_goals exact ⟨aZ (by simp [*]),by exact zB⟩
end
section
open Go.RowKit
attribute [local simp] aI
attribute [local go_sem ↓] aH aU aM bz aN bB aA aK ax aB
theorem nk (c:Ch) (v:Int) (a b:Option Addr) (p q:Nat) (w:World) :
    Calls Tryz.prog 124 #[.agg (af c (.slice a c.cells.length p) (.slice b c.words.length q)),.int .i64 v] w fun r w'=>r=.returned (.bool (jo c v))∧Below w.heap.size w w':=p9 c v a b p q w
theorem II (c:Ch) (h:Ha) (v1 v2:Value) (lo:Nat) (w:World) (h1:ah w lo v1 c.cells) (h2:ai w lo v2 c.words) (hm0:1≤h.mine) (hm1:h.mine≤c.words.length) (sK:c.words.length≤80) (hs:dX c h.mine=0) :
    bY 212 c h v1 v2 lo w (iJ c h):=by
  obtain ⟨j,hj⟩:∃ j:Nat,h.mine=(j:Int)+1:=⟨(h.mine - 1).toNat,by omega⟩
  have hjl:j<c.words.length:=by omega
  have hw0:dX c h.mine=c.words.getD j 0:=by simp [dX,hj]
  have e:iJ c h=(c,h,false):=by simp [iJ,hs]
  rw [e]
  rw [hw0] at hs
  have b1:=jc h1
  have b2:=jc h2
  have m1:=lD b1
  have m2:=lD b2
  have m10:=m1 (w.heap.size) tO
  have m20:=m2 (w.heap.size) tO
  have m11:=m1 (w.heap.size+1) tO
  have m21:=m2 (w.heap.size+1) tO
  have m12:=m1 (w.heap.size+1+1) tO
  have m22:=m2 (w.heap.size+1+1) tO
  have m13:=m1 (w.heap.size+1+1+1) tO
  have m23:=m2 (w.heap.size+1+1+1) tO
  have o1:=h1
  have o2:=h2
  obtain ⟨a1,q1,e1,_⟩:=h1.seg
  obtain ⟨a2,q2,e2,_⟩:=h2.seg
  subst e1 e2
  clear h1 h2 e
  go_enter Tryz.func212,Tryz.ntmps212
  obtain ⟨g,cap,hv,hlo,hlt,hcell,_⟩:=o2.open1 hjl
  simp at hv
  obtain ⟨rfl,rfl⟩:=hv
  generalize c.words.getD j 0=y at *
  have hj0:(0:Int)≤(j:Int):=by omega
  have hj1:(j:Int)<(c.words.length:Int):=by omega
  have hg0:g≠w.heap.size:=by omega
  have hg1:g≠w.heap.size+1:=by omega
  have hg2:g≠w.heap.size+1+1:=by omega
  have hg3:g≠w.heap.size+1+1+1:=by omega
  have hg4:g<w.heap.size+1:=by omega
  have hg5:g<w.heap.size+1+1:=by omega
  have PD:g<w.heap.size+1+1+1:=by omega
  go_wp2_with fail
  go_region
  all_goals go_wp2
  all_goals (refine rE Tryz.results212 rfl (az c (.slice a1 c.cells.length q1) (.slice (some ⟨g,0,none⟩) c.words.length q2) tY) rfl (aj h tY) ⟨⟨_,_,rfl,?_,?_,av _ _,av _ _⟩,dA zB⟩)
  all_goals first|(show ah _ _ _ c.cells;exact zO o1 o1)|skip
  all_goals first|(show ai _ _ _ c.words;exact zO o2 o2)|skip
theorem IJ (c:Ch) (h:Ha) (v1 v2:Value) (lo:Nat) (w:World) (h1:ah w lo v1 c.cells) (h2:ai w lo v2 c.words) (hm0:1≤h.mine) (hm1:h.mine≤c.words.length) (sK:c.words.length≤80) (hs:(dX c h.mine == 0)=false) (hs2:(dX c h.mine == 2)=false) (hs3:(h.code == 1)=true) :
    bY 212 c h v1 v2 lo w (iJ c h):=by
  obtain ⟨j,hj⟩:∃ j:Nat,h.mine=(j:Int)+1:=⟨(h.mine - 1).toNat,by omega⟩
  have hjl:j<c.words.length:=by omega
  have hw0:dX c h.mine=c.words.getD j 0:=by simp [dX,hj]
  have e:iJ c h=done c (aS 1 0):=by simp at hs hs2 hs3;simp [iJ,hs,hs2,hs3]
  rw [e]
  rw [hw0] at hs hs2
  have D:=Lib.hid fun W=>aW c (aS 1 0) v1 v2 lo W
  generalize done c (aS 1 0)=x at *
  have b1:=jc h1
  have b2:=jc h2
  have m1:=lD b1
  have m2:=lD b2
  have m10:=m1 (w.heap.size) tO
  have m20:=m2 (w.heap.size) tO
  have m11:=m1 (w.heap.size+1) tO
  have m21:=m2 (w.heap.size+1) tO
  have m12:=m1 (w.heap.size+1+1) tO
  have m22:=m2 (w.heap.size+1+1) tO
  have m13:=m1 (w.heap.size+1+1+1) tO
  have m23:=m2 (w.heap.size+1+1+1) tO
  have o1:=h1
  have o2:=h2
  obtain ⟨a1,q1,e1,_⟩:=h1.seg
  obtain ⟨a2,q2,e2,_⟩:=h2.seg
  subst e1 e2
  clear h1 h2 e
  go_enter Tryz.func212,Tryz.ntmps212
  obtain ⟨g,cap,hv,hlo,hlt,hcell,_⟩:=o2.open1 hjl
  simp at hv
  obtain ⟨rfl,rfl⟩:=hv
  generalize c.words.getD j 0=y at *
  have hj0:(0:Int)≤(j:Int):=by omega
  have hj1:(j:Int)<(c.words.length:Int):=by omega
  have hg0:g≠w.heap.size:=by omega
  have hg1:g≠w.heap.size+1:=by omega
  have hg2:g≠w.heap.size+1+1:=by omega
  have hg3:g≠w.heap.size+1+1+1:=by omega
  have hg4:g<w.heap.size+1:=by omega
  have hg5:g<w.heap.size+1+1:=by omega
  have PD:g<w.heap.size+1+1+1:=by omega
  go_wp2_with fail;refine au w zB fun bb=>?_;refine (fB _ _ _).mono ?_;rintro _ w4 ⟨rfl,d9⟩;obtain ⟨kI,gu,zz⟩:=dV bb d9 (b:=w.heap.size);(try simp at gu);(try simp [go_sem] at zz);replace bX:=dx zz;clear zz d9 bb
  have s1:=own_below o1 kI
  have s2:=own_below o2 kI
  go_wp2_with fail;refine au w zB fun bb=>?_;refine (D.out _ (zO s1 o1) (zO s2 o2)).mono ?_;rintro _ w3 ⟨⟨y1,y2,rfl,aO,aQ,dH,dF⟩,aC⟩;obtain ⟨iG,bM,zz⟩:=dV bb aC (b:=w.heap.size);(try simp at bM);(first|simp [go_sem,bX] at zz|simp [go_sem] at zz|skip);replace bX:=dx zz;clear zz aC bb
  obtain ⟨⟨aD,aF⟩,dQ,dR⟩:=sO (w:=w) (w.heap.size+1+1+1+1) dH dF b1 b2;obtain ⟨ya,yp,rfl,_⟩:=aO.seg;obtain ⟨yb,yq,rfl,_⟩:=aQ.seg
  go_wp2
  refine rE Tryz.results212 rfl (az x.1 (.slice ya x.1.cells.length yp) (.slice yb x.1.words.length yq) tY) rfl (aj x.2.1 tY) ⟨⟨_,_,rfl,?_,?_,dQ,dR⟩,dA zB⟩
  · exact zP aO aO aD
  · exact zP aQ aQ aF
theorem vN (c:Ch) (h:Ha) (v1 v2:Value) (lo:Nat) (w:World) (h1:ah w lo v1 c.cells) (h2:ai w lo v2 c.words) (hm0:1≤h.mine) (hm1:h.mine≤c.words.length) (sK:c.words.length≤80) (hs:(dX c h.mine == 0)=false) :
    (∀ (hs2:(dX c h.mine == 2)=true),Calls Tryz.prog 212 #[.agg (af c v1 v2),.agg (aa h)] w fun r w'=>cK w w' lo v1 v2 (iJ c h) r) ∧
    (∀ (hs2:(dX c h.mine == 2)=false) (hs3:(h.code == 1)=false),Calls Tryz.prog 212 #[.agg (af c v1 v2),.agg (aa h)] w fun r w'=>cK w w' lo v1 v2 (iJ c h) r):=by
  constructor
  case' left =>
    intro hs2
    have mA:Hid (0=0):=rfl
  case' right =>
    intro hs2 hs3
    have mB:Hid (0=0):=rfl
  all_goals
    obtain ⟨j,hj⟩:∃ j:Nat,h.mine=(j:Int)+1:=⟨(h.mine - 1).toNat,by omega⟩
    have hjl:j<c.words.length:=by omega
    have hw0:dX c h.mine=c.words.getD j 0:=by simp [dX,hj]
    first
    | (replace mA:=mA;have e:iJ c h=done c ({ h with pos:=25,mine:=(j:Int)+1 }):=by rw [← hj];simp at hs hs2;simp [iJ,hs2])
    | (replace mB:=mB;have e:iJ c h=done c ({ h with pos:=24,mine:=(j:Int)+1 }):=by rw [← hj];simp at hs hs2 hs3;simp [iJ,hs,hs2,hs3])
    rw [e]
    rw [hw0] at hs hs2
    first
    | (replace mA:=mA
       have D:=Lib.hid fun W=>aW c ({ h with pos:=25,mine:=(j:Int)+1 }) v1 v2 lo W
       generalize done c ({ h with pos:=25,mine:=(j:Int)+1 })=x at *)
    | (replace mB:=mB
       have D:=Lib.hid fun W=>aW c ({ h with pos:=24,mine:=(j:Int)+1 }) v1 v2 lo W
       generalize done c ({ h with pos:=24,mine:=(j:Int)+1 })=x at *)
    have b1:=jc h1
    have b2:=jc h2
    have m1:=lD b1
    have m2:=lD b2
    have m10:=m1 (w.heap.size) tO
    have m20:=m2 (w.heap.size) tO
    have m11:=m1 (w.heap.size+1) tO
    have m21:=m2 (w.heap.size+1) tO
    have m12:=m1 (w.heap.size+1+1) tO
    have m22:=m2 (w.heap.size+1+1) tO
    have m13:=m1 (w.heap.size+1+1+1) tO
    have m23:=m2 (w.heap.size+1+1+1) tO
    have o1:=h1
    have o2:=h2
    obtain ⟨a1,q1,e1,_⟩:=h1.seg
    obtain ⟨a2,q2,e2,_⟩:=h2.seg
    subst e1 e2
    clear h1 h2 e
    go_enter Tryz.func212,Tryz.ntmps212
    obtain ⟨g,cap,hv,hlo,hlt,hcell,_⟩:=o2.open1 hjl
    simp at hv
    obtain ⟨rfl,rfl⟩:=hv
    generalize c.words.getD j 0=y at *
    have hj0:(0:Int)≤(j:Int):=by omega
    have hj1:(j:Int)<(c.words.length:Int):=by omega
    have hg0:g≠w.heap.size:=by omega
    have hg1:g≠w.heap.size+1:=by omega
    have hg2:g≠w.heap.size+1+1:=by omega
    have hg3:g≠w.heap.size+1+1+1:=by omega
    have hg4:g<w.heap.size+1:=by omega
    have hg5:g<w.heap.size+1+1:=by omega
    have PD:g<w.heap.size+1+1+1:=by omega
    go_wp2_with fail;refine au w zB fun bb=>?_;refine (D.out _ (zO o1 o1) (zO o2 o2)).mono ?_;rintro _ w3 ⟨⟨y1,y2,rfl,aO,aQ,dH,dF⟩,aC⟩;obtain ⟨iG,bM,zz⟩:=dV bb aC (b:=w.heap.size);(try simp at bM);(try simp [go_sem] at zz);replace bX:=dx zz;clear zz aC bb
    obtain ⟨⟨aD,aF⟩,dQ,dR⟩:=sO (w:=w) (w.heap.size+1+1+1+1) dH dF b1 b2;obtain ⟨ya,yp,rfl,_⟩:=aO.seg;obtain ⟨yb,yq,rfl,_⟩:=aQ.seg
    go_wp2
    refine rE Tryz.results212 rfl (az x.1 (.slice ya x.1.cells.length yp) (.slice yb x.1.words.length yq) tY) rfl (aj x.2.1 tY) ⟨⟨_,_,rfl,?_,?_,dQ,dR⟩,dA zB⟩
    · exact zP aO aO aD
    · exact zP aQ aQ aF
theorem IK (c:Ch) (h:Ha) (v1 v2:Value) (lo:Nat) (w:World) (h1:ah w lo v1 c.cells) (h2:ai w lo v2 c.words) (hm0:1≤h.mine) (hm1:h.mine≤c.words.length) (sK:c.words.length≤80) (hs:(dX c h.mine == 0)=false) (hs2:(dX c h.mine == 2)=true) :
    Calls Tryz.prog 212 #[.agg (af c v1 v2),.agg (aa h)] w fun r w'=>cK w w' lo v1 v2 (iJ c h) r:=(vN c h v1 v2 lo w h1 h2 hm0 hm1 sK hs).1 hs2
theorem IL (c:Ch) (h:Ha) (v1 v2:Value) (lo:Nat) (w:World) (h1:ah w lo v1 c.cells) (h2:ai w lo v2 c.words) (hm0:1≤h.mine) (hm1:h.mine≤c.words.length) (sK:c.words.length≤80) (hs:(dX c h.mine == 0)=false) (hs2:(dX c h.mine == 2)=false) (hs3:(h.code == 1)=false) :
    Calls Tryz.prog 212 #[.agg (af c v1 v2),.agg (aa h)] w fun r w'=>cK w w' lo v1 v2 (iJ c h) r:=(vN c h v1 v2 lo w h1 h2 hm0 hm1 sK hs).2 hs2 hs3
theorem Dk (c:Ch) (h:Ha) (v1 v2:Value) (lo:Nat) (w:World) (h1:ah w lo v1 c.cells) (h2:ai w lo v2 c.words) (hm0:1≤h.mine) (hm1:h.mine≤c.words.length) (sK:c.words.length≤80) :
    bY 212 c h v1 v2 lo w (iJ c h):=by
  by_cases s0:dX c h.mine=0
  · exact II c h v1 v2 lo w h1 h2 hm0 hm1 sK s0
  · by_cases s2:dX c h.mine=2
    · exact IK c h v1 v2 lo w h1 h2 hm0 hm1 sK (by simpa using s0) (by simpa using s2)
    · by_cases s3:h.code=1
      · exact IJ c h v1 v2 lo w h1 h2 hm0 hm1 sK (by simpa using s0) (by simpa using s2) (by simpa using s3)
      · exact IL c h v1 v2 lo w h1 h2 hm0 hm1 sK (by simpa using s0) (by simpa using s2) (by simpa using s3)
end
section
open Go.RowKit
attribute [local simp] aI
attribute [local go_sem ↓] aH aU aM bz aN bB aA aK ax aB
theorem F8 (c:Ch) (h:Ha) (a b:Option Addr) (p q:Nat) (w:World) (h1:eY w w.heap.size a c.cells) (h2:eZ w w.heap.size b c.words) (hk:aX c h 23 25 0=false) :
    Calls Tryz.prog 192 #[.agg (af c (.slice a c.cells.length p) (.slice b c.words.length q)),.agg (aa h)] w fun r w'=>bQ w w' (bC c h) r:=by
  have e:bC c h=nothing:=by simp [bC,hk]
  rw [e]
  have H1:=Lib.hid h1
  have H2:=Lib.hid h2
  have T:=Lib.hid fun W=>fQ W w.heap.size (.slice none 0 0) (.slice none 0 0)
  generalize nothing=x at *
  clear h1 h2 e
  have d1:∀ j,(Value.slice none 0 0).ownBlock=some j→w.heap.size+1+1+1+1≤j:=fun j hj=>by cases hj
  have d2:=d1
  go_enter Tryz.func192,Tryz.ntmps192
  go_wp2_with fail;refine au w zB fun bb=>?_;refine (bZ c h 23 25 0 a b p q _ (aT H1 bb) (aT H2 bb)).mono ?_;rintro _ w1 ⟨rfl,ag⟩;obtain ⟨aV,ak,zz⟩:=dV bb ag (b:=w.heap.size);(try simp at ak);(try simp [go_sem] at zz);replace bX:=dx zz;clear zz ag bb
  rw [hk]
  go_wp2_with fail;refine au w zB fun bb=>?_;refine (T.out _).mono ?_;rintro _ w2 ⟨⟨y1,y2,rfl,aO,aQ,dH,dF⟩,hbw2⟩;obtain ⟨dh,aR,zz⟩:=dV bb hbw2 (b:=w.heap.size);(try simp at aR);(first|simp [go_sem,bX] at zz|simp [go_sem] at zz|skip);replace bX:=dx zz;clear zz hbw2 bb
  obtain ⟨⟨aD,aF⟩,dQ,dR⟩:=kH (w:=w) (w.heap.size+1+1+1+1) dH dF d1 d2;obtain ⟨ya,yp,rfl,_⟩:=aO.seg;obtain ⟨yb,yq,rfl,_⟩:=aQ.seg
  go_wp2
  refine rE Tryz.results192 rfl (az x.1 (.slice ya x.1.cells.length yp) (.slice yb x.1.words.length yq) tY) rfl (aj x.2.1 tY) ⟨⟨_,_,rfl,?_,?_,dQ,dR⟩,by exact zB⟩
  · exact zP aO aO aD
  · exact zP aQ aQ aF
theorem F9 (c:Ch) (h:Ha) (a b:Option Addr) (p q:Nat) (w:World) (h1:eY w w.heap.size a c.cells) (h2:eZ w w.heap.size b c.words) (hk:aX c h 23 25 0=true) (hh:jo c h.mine=false) :
    Calls Tryz.prog 192 #[.agg (af c (.slice a c.cells.length p) (.slice b c.words.length q)),.agg (aa h)] w fun r w'=>bQ w w' (bC c h) r:=by
  have e:bC c h=nothing:=by simp [bC,hk,hh]
  rw [e]
  have H1:=Lib.hid h1
  have H2:=Lib.hid h2
  have T:=Lib.hid fun W=>fQ W w.heap.size (.slice none 0 0) (.slice none 0 0)
  generalize nothing=x at *
  clear h1 h2 e
  have d1:∀ j,(Value.slice none 0 0).ownBlock=some j→w.heap.size+1+1+1+1≤j:=fun j hj=>by cases hj
  have d2:=d1
  go_enter Tryz.func192,Tryz.ntmps192
  go_wp2_with fail;refine au w zB fun bb=>?_;refine (bZ c h 23 25 0 a b p q _ (aT H1 bb) (aT H2 bb)).mono ?_;rintro _ w1 ⟨rfl,ag⟩;obtain ⟨aV,ak,zz⟩:=dV bb ag (b:=w.heap.size);(try simp at ak);(try simp [go_sem] at zz);replace bX:=dx zz;clear zz ag bb
  rw [hk]
  go_wp2_with fail;refine au w zB fun bb=>?_;refine (nk c h.mine _ _ _ _ _).mono ?_;rintro _ w0 ⟨rfl,hbw0⟩;obtain ⟨KV,xE,zz⟩:=dV bb hbw0 (b:=w.heap.size);(try simp at xE);(first|simp [go_sem,bX] at zz|simp [go_sem] at zz|skip);replace bX:=dx zz;clear zz hbw0 bb
  rw [hh]
  go_wp2_with fail;refine au w zB fun bb=>?_;refine (T.out _).mono ?_;rintro _ w2 ⟨⟨y1,y2,rfl,aO,aQ,dH,dF⟩,hbw2⟩;obtain ⟨dh,aR,zz⟩:=dV bb hbw2 (b:=w.heap.size);(try simp at aR);(first|simp [go_sem,bX] at zz|simp [go_sem] at zz|skip);replace bX:=dx zz;clear zz hbw2 bb
  obtain ⟨⟨aD,aF⟩,dQ,dR⟩:=kH (w:=w) (w.heap.size+1+1+1+1) dH dF d1 d2;obtain ⟨ya,yp,rfl,_⟩:=aO.seg;obtain ⟨yb,yq,rfl,_⟩:=aQ.seg
  go_wp2
  refine rE Tryz.results192 rfl (az x.1 (.slice ya x.1.cells.length yp) (.slice yb x.1.words.length yq) tY) rfl (aj x.2.1 tY) ⟨⟨_,_,rfl,?_,?_,dQ,dR⟩,by exact zB⟩
  · exact zP aO aO aD
  · exact zP aQ aQ aF
theorem FB (c:Ch) (h:Ha) (a b:Option Addr) (p q:Nat) (w:World) (h1:eY w w.heap.size a c.cells) (h2:eZ w w.heap.size b c.words) (hk:aX c h 23 25 0=true) (hh:jo c h.mine=true) (hp0:h.pos=24) (hc:(h.code == 1)=true) :
    Calls Tryz.prog 192 #[.agg (af c (.slice a c.cells.length p) (.slice b c.words.length q)),.agg (aa h)] w fun r w'=>bQ w w' (bC c h) r:=by
  have e:bC c h=nothing:=by simp at hc;simp [bC,hk,hh,hp0,hc]
  rw [e]
  have H1:=Lib.hid h1
  have H2:=Lib.hid h2
  have T:=Lib.hid fun W=>fQ W w.heap.size (.slice none 0 0) (.slice none 0 0)
  generalize nothing=x at *
  clear h1 h2 e
  have d1:∀ j,(Value.slice none 0 0).ownBlock=some j→w.heap.size+1+1+1+1≤j:=fun j hj=>by cases hj
  have d2:=d1
  go_enter Tryz.func192,Tryz.ntmps192
  go_wp2_with fail;refine au w zB fun bb=>?_;refine (bZ c h 23 25 0 a b p q _ (aT H1 bb) (aT H2 bb)).mono ?_;rintro _ w1 ⟨rfl,ag⟩;obtain ⟨aV,ak,zz⟩:=dV bb ag (b:=w.heap.size);(try simp at ak);(try simp [go_sem] at zz);replace bX:=dx zz;clear zz ag bb
  rw [hk]
  go_wp2_with fail;refine au w zB fun bb=>?_;refine (nk c h.mine _ _ _ _ _).mono ?_;rintro _ w0 ⟨rfl,hbw0⟩;obtain ⟨KV,xE,zz⟩:=dV bb hbw0 (b:=w.heap.size);(try simp at xE);(first|simp [go_sem,bX] at zz|simp [go_sem] at zz|skip);replace bX:=dx zz;clear zz hbw0 bb
  rw [hh]
  go_wp2_with fail;refine au w zB fun bb=>?_;refine (T.out _).mono ?_;rintro _ w2 ⟨⟨y1,y2,rfl,aO,aQ,dH,dF⟩,hbw2⟩;obtain ⟨dh,aR,zz⟩:=dV bb hbw2 (b:=w.heap.size);(try simp at aR);(first|simp [go_sem,bX] at zz|simp [go_sem] at zz|skip);replace bX:=dx zz;clear zz hbw2 bb
  obtain ⟨⟨aD,aF⟩,dQ,dR⟩:=kH (w:=w) (w.heap.size+1+1+1+1) dH dF d1 d2;obtain ⟨ya,yp,rfl,_⟩:=aO.seg;obtain ⟨yb,yq,rfl,_⟩:=aQ.seg
  go_wp2
  refine rE Tryz.results192 rfl (az x.1 (.slice ya x.1.cells.length yp) (.slice yb x.1.words.length yq) tY) rfl (aj x.2.1 tY) ⟨⟨_,_,rfl,?_,?_,dQ,dR⟩,by exact zB⟩
  · exact zP aO aO aD
  · exact zP aQ aQ aF
theorem IM (c:Ch) (h:Ha) (a b:Option Addr) (p q:Nat) (w:World) (h1:eY w w.heap.size a c.cells) (z1:a=none→p=0) (h2:eZ w w.heap.size b c.words) (z2:b=none→q=0) (hk:aX c h 23 25 0=true) (hh:jo c h.mine=true) (hp0:h.pos=23) :
    Calls Tryz.prog 192 #[.agg (af c (.slice a c.cells.length p) (.slice b c.words.length q)),.agg (aa h)] w fun r w'=>bQ w w' (bC c h) r:=by
  obtain ⟨k1,k2,_,_⟩:=bu hk
  obtain ⟨n1,n2⟩:=dM k1
  have m1:c.cells.length≤1099511627776:=by omega
  have m2:c.words.length≤1099511627776:=by omega
  have H1:=Lib.hid h1
  have H2:=Lib.hid h2
  have Z1:=Lib.hid z1
  have Z2:=Lib.hid z2
  have hmm:=mI.1 hh
  have e:bC c h=iJ c h:=by simp [bC,hk,hh,hp0]
  rw [e]
  have D:=Lib.hid fun v1 v2 W x1 x2=>Dk c h v1 v2 w.heap.size W x1 x2 hmm.1 hmm.2 n2
  generalize iJ c h=x at *
  clear h1 h2 z1 z2 e k1 k2 n1 n2 hmm
  go_enter Tryz.func192,Tryz.ntmps192
  go_wp2_with fail;refine au w zB fun bb=>?_;refine (bZ c h 23 25 0 a b p q _ (aT H1 bb) (aT H2 bb)).mono ?_;rintro _ w1 ⟨rfl,ag⟩;obtain ⟨aV,ak,zz⟩:=dV bb ag (b:=w.heap.size);(try simp at ak);(try simp [go_sem] at zz);replace bX:=dx zz;clear zz ag bb
  rw [hk]
  go_wp2_with fail;refine au w zB fun bb=>?_;refine (nk c h.mine _ _ _ _ _).mono ?_;rintro _ w0 ⟨rfl,hbw0⟩;obtain ⟨KV,xE,zz⟩:=dV bb hbw0 (b:=w.heap.size);(try simp at xE);(first|simp [go_sem,bX] at zz|simp [go_sem] at zz|skip);replace bX:=dx zz;clear zz hbw0 bb
  rw [hh]
  go_wp2_with fail;refine au w zB fun bb=>?_;refine (cO c a b p q _ (aT H1 bb) Z1.out (aT H2 bb) Z2.out m1 m2).mono ?_;rintro _ w2 ⟨⟨v1,v2,rfl,o1,o2⟩,hbw2⟩;obtain ⟨dh,aR,zz⟩:=dV bb hbw2 (b:=w.heap.size);(try simp at aR);(first|simp [go_sem,bX] at zz|simp [go_sem] at zz|skip);replace bX:=dx zz;clear zz hbw2 bb
  have d1:=iH o1 (w.heap.size+1+1+1+1)
  have d2:=iH o2 (w.heap.size+1+1+1+1)
  have p1:=ay (lo':=w.heap.size) o1 tO
  have p2:=ay (lo':=w.heap.size) o2 tO
  obtain ⟨a1,q1,rfl,_⟩:=o1.seg
  obtain ⟨a2,q2,rfl,_⟩:=o2.seg
  have m3:∀ j,j<w.heap.size+1+1+1+1→some j≠(Value.slice a1 c.cells.length q1).ownBlock:=fun j hj e=>by have:=d1 _ e.symm;omega
  have m4:∀ j,j<w.heap.size+1+1+1+1→some j≠(Value.slice a2 c.words.length q2).ownBlock:=fun j hj e=>by have:=d2 _ e.symm;omega
  have m10:=m3 (w.heap.size) tO
  have m20:=m4 (w.heap.size) tO
  have m11:=m3 (w.heap.size+1) tO
  have m21:=m4 (w.heap.size+1) tO
  have m12:=m3 (w.heap.size+1+1) tO
  have m22:=m4 (w.heap.size+1+1) tO
  have m13:=m3 (w.heap.size+1+1+1) tO
  have m23:=m4 (w.heap.size+1+1+1) tO
  go_wp2_with fail
  refine (D.out _ _ _ (zO p1 o1) (zO p2 o2)).mono ?_
  rintro _ w3 ⟨⟨y1,y2,rfl,aO,aQ,dH,dF⟩,hO⟩
  have hB3:Below w.heap.size w w3:=Bc zB hO (fun j hj=>by have:=d1 j hj;omega) (fun j hj=>by have:=d2 j hj;omega)
  have bM:=hO.2.2.2.1;(try (simp at bM));have zz:=Bl hO (b:=w.heap.size);(first|simp [go_sem,bX] at zz|simp [go_sem] at zz|skip);replace bX:=dx zz;clear zz
  clear hO
  obtain ⟨⟨aD,aF⟩,dQ,dR⟩:=kH (w:=w) (w.heap.size+1+1+1+1) dH dF d1 d2;obtain ⟨ya,yp,rfl,_⟩:=aO.seg;obtain ⟨yb,yq,rfl,_⟩:=aQ.seg
  go_wp2
  refine rE Tryz.results192 rfl (az x.1 (.slice ya x.1.cells.length yp) (.slice yb x.1.words.length yq) tY) rfl (aj x.2.1 tY) ⟨⟨_,_,rfl,?_,?_,dQ,dR⟩,by exact zB⟩
  · exact zP aO aO aD
  · exact zP aQ aQ aF
theorem sM (c:Ch) (h:Ha) (a b:Option Addr) (p q:Nat) (w:World) (h1:eY w w.heap.size a c.cells) (z1:a=none→p=0) (h2:eZ w w.heap.size b c.words) (z2:b=none→q=0) (hk:aX c h 23 25 0=true) (hh:jo c h.mine=true) (hp0:h.pos=25) :
    (∀ (hc:(h.code == 1)=true),Calls Tryz.prog 192 #[.agg (af c (.slice a c.cells.length p) (.slice b c.words.length q)),.agg (aa h)] w fun r w'=>bQ w w' (bC c h) r) ∧
    (∀ (hc:(h.code == 1)=false),Calls Tryz.prog 192 #[.agg (af c (.slice a c.cells.length p) (.slice b c.words.length q)),.agg (aa h)] w fun r w'=>bQ w w' (bC c h) r):=by
  constructor
  case' left =>
    intro hc
    have mA:Hid (0=0):=rfl
  case' right =>
    intro hc
    have mB:Hid (0=0):=rfl
  all_goals
    obtain ⟨k1,k2,_,_⟩:=bu hk
    obtain ⟨n1,n2⟩:=dM k1
    have m1:c.cells.length≤1099511627776:=by omega
    have m2:c.words.length≤1099511627776:=by omega
    have H1:=Lib.hid h1
    have H2:=Lib.hid h2
    have Z1:=Lib.hid z1
    have Z2:=Lib.hid z2
    obtain ⟨c1,c2⟩:=fE k2
    obtain ⟨i,hci⟩:∃ i:Nat,h.cell=(i:Int):=⟨h.cell.toNat,by omega⟩
    have hi:i<c.cells.length:=by omega
    first
    | (replace mA:=mA;have e:bC c h=done (bH c i 9) (aS 3 0):=by simp at hc;simp [bC,hk,hh,hp0,hci,vF,hc])
    | (replace mB:=mB;have e:bC c h=done (bH c i 10) (aS 3 0):=by simp at hc;simp [bC,hk,hh,hp0,hci,vF,hc])
    rw [e]
    first
    | (replace mA:=mA
       have ST:=Lib.hid fun v1 v2 W=>iM c i 9 v1 v2 w.heap.size W
       have D:=fun v1 v2 W=>aW (bH c i 9) (aS 3 0) v1 v2 w.heap.size W)
    | (replace mB:=mB
       have ST:=Lib.hid fun v1 v2 W=>iM c i 10 v1 v2 w.heap.size W
       have D:=fun v1 v2 W=>aW (bH c i 10) (aS 3 0) v1 v2 w.heap.size W)
    simp only [jh,iQ] at D
    first
    | (replace mA:=mA;generalize done (bH c i 9) (aS 3 0)=x at *)
    | (replace mB:=mB;generalize done (bH c i 10) (aS 3 0)=x at *)
    replace D:=Lib.hid D
    clear h1 h2 z1 z2 e k1 k2 n1 n2 c1 c2
    go_enter Tryz.func192,Tryz.ntmps192
    go_wp2_with fail;refine au w zB fun bb=>?_;refine (bZ c h 23 25 0 a b p q _ (aT H1 bb) (aT H2 bb)).mono ?_;rintro _ w1 ⟨rfl,ag⟩;obtain ⟨aV,ak,zz⟩:=dV bb ag (b:=w.heap.size);(try simp at ak);(try simp [go_sem] at zz);replace bX:=dx zz;clear zz ag bb
    rw [hk]
    go_wp2_with fail;refine au w zB fun bb=>?_;refine (nk c h.mine _ _ _ _ _).mono ?_;rintro _ w0 ⟨rfl,hbw0⟩;obtain ⟨KV,xE,zz⟩:=dV bb hbw0 (b:=w.heap.size);(try simp at xE);(first|simp [go_sem,bX] at zz|simp [go_sem] at zz|skip);replace bX:=dx zz;clear zz hbw0 bb
    rw [hh]
    go_wp2_with fail;refine au w zB fun bb=>?_;refine (cO c a b p q _ (aT H1 bb) Z1.out (aT H2 bb) Z2.out m1 m2).mono ?_;rintro _ w2 ⟨⟨v1,v2,rfl,o1,o2⟩,hbw2⟩;obtain ⟨dh,aR,zz⟩:=dV bb hbw2 (b:=w.heap.size);(try simp at aR);(first|simp [go_sem,bX] at zz|simp [go_sem] at zz|skip);replace bX:=dx zz;clear zz hbw2 bb
    have d1:=iH o1 (w.heap.size+1+1+1+1)
    have d2:=iH o2 (w.heap.size+1+1+1+1)
    have p1:=ay (lo':=w.heap.size) o1 tO
    have p2:=ay (lo':=w.heap.size) o2 tO
    obtain ⟨a1,q1,rfl,_⟩:=o1.seg
    obtain ⟨a2,q2,rfl,_⟩:=o2.seg
    have nw:∀ j,(j<w.heap.size+1+1+1+1∨w2.heap.size≤j)→some j≠(Value.slice a1 c.cells.length q1).ownBlock:=fun j hj e=>by have:=d1 _ e.symm;have:=(o1.lt _ e.symm).2;omega
    have LV:=nw (w.heap.size) tO
    have JU:=nw (w.heap.size+1) tO
    have JV:=nw (w.heap.size+1+1) tO
    have Lr:=nw (w.heap.size+1+1+1) tO
    have MN:=nw w2.heap.size tO
    go_wp2_with fail
    refine (ST.out _ _ _ (zO p1 o1) (zO p2 o2) hi).mono ?_
    rintro _ w4 ⟨rfl,s1,s2,fw⟩
    have gu:=fw.size;(try (simp at gu));have zz:=And.intro (dN fw (b:=w2.heap.size) tS (by assumption)) <| And.intro (dN fw (b:=w.heap.size+1+1+1) tS (by assumption)) <| And.intro (dN fw (b:=w.heap.size+1+1) tS (by assumption)) <| And.intro (dN fw (b:=w.heap.size+1) tS (by assumption)) <| dN fw (b:=w.heap.size) tS (by assumption);(first|simp [go_sem,bX] at zz|simp [go_sem] at zz|skip);replace bX:=jb zz;clear zz
    have kI:Below w.heap.size w w4:=lI zB fw tS (fun k hk=>by have:=d1 k hk;omega)
    clear fw
    go_wp2_with fail;refine au w zB fun bb=>?_;refine au w4 zB fun bk=>?_;refine (fB _ _ _).mono ?_;rintro _ w5 ⟨rfl,bU⟩;obtain ⟨mE,gK,zz⟩:=dV bb bU (b:=w.heap.size);(try simp at gK);(first|simp [go_sem,bX] at zz|simp [go_sem] at zz|skip);replace bX:=dx zz;clear zz;have gZ:=bT bk bU;clear bU bb bk
    have r1:=own_below s1 gZ
    have r2:=own_below s2 gZ
    go_wp2_with fail;refine au w zB fun bb=>?_;refine (D.out _ _ _ (zO r1 o1) (zO r2 o2)).mono ?_;rintro _ w3 ⟨⟨y1,y2,rfl,aO,aQ,dH,dF⟩,aC⟩;obtain ⟨iG,bM,zz⟩:=dV bb aC (b:=w.heap.size);(try simp at bM);(first|simp [go_sem,bX] at zz|simp [go_sem] at zz|skip);replace bX:=dx zz;clear zz aC bb
    obtain ⟨⟨aD,aF⟩,dQ,dR⟩:=kH (w:=w) (w.heap.size+1+1+1+1) dH dF d1 d2;obtain ⟨ya,yp,rfl,_⟩:=aO.seg;obtain ⟨yb,yq,rfl,_⟩:=aQ.seg
    go_wp2
    refine rE Tryz.results192 rfl (az x.1 (.slice ya x.1.cells.length yp) (.slice yb x.1.words.length yq) tY) rfl (aj x.2.1 tY) ⟨⟨_,_,rfl,?_,?_,dQ,dR⟩,by exact zB⟩
    · exact zP aO aO aD
    · exact zP aQ aQ aF
theorem FC (c:Ch) (h:Ha) (a b:Option Addr) (p q:Nat) (w:World) (h1:eY w w.heap.size a c.cells) (z1:a=none→p=0) (h2:eZ w w.heap.size b c.words) (z2:b=none→q=0) (hk:aX c h 23 25 0=true) (hh:jo c h.mine=true) (hp0:h.pos=25) (hc:(h.code == 1)=true) :
    Calls Tryz.prog 192 #[.agg (af c (.slice a c.cells.length p) (.slice b c.words.length q)),.agg (aa h)] w fun r w'=>bQ w w' (bC c h) r:=(sM c h a b p q w h1 z1 h2 z2 hk hh hp0).1 hc
theorem FD (c:Ch) (h:Ha) (a b:Option Addr) (p q:Nat) (w:World) (h1:eY w w.heap.size a c.cells) (z1:a=none→p=0) (h2:eZ w w.heap.size b c.words) (z2:b=none→q=0) (hk:aX c h 23 25 0=true) (hh:jo c h.mine=true) (hp0:h.pos=25) (hc:(h.code == 1)=false) :
    Calls Tryz.prog 192 #[.agg (af c (.slice a c.cells.length p) (.slice b c.words.length q)),.agg (aa h)] w fun r w'=>bQ w w' (bC c h) r:=(sM c h a b p q w h1 z1 h2 z2 hk hh hp0).2 hc
end
section
open Go.RowKit
attribute [local simp] aI
attribute [local go_sem ↓] aH aU aM bz aN bB aA aK ax aB
theorem IP (c:Ch) (h:Ha) (a b:Option Addr) (p q:Nat) (w:World) (h1:eY w w.heap.size a c.cells) (z1:a=none→p=0) (h2:eZ w w.heap.size b c.words) (z2:b=none→q=0) (hk:aX c h 23 25 0=true) (hh:jo c h.mine=true) (hp0:h.pos=24) (hc:(h.code == 1)=false) :
  Calls Tryz.prog 192 #[.agg (af c (.slice a c.cells.length p) (.slice b c.words.length q)),.agg (aa h)] w fun r w'=>bQ w w' (bC c h) r:=by
 obtain ⟨k1,k2,_,_⟩:=bu hk
 obtain ⟨n1,n2⟩:=dM k1
 have m1:c.cells.length≤1099511627776:=by omega
 have m2:c.words.length≤1099511627776:=by omega
 have H1:=Lib.hid h1
 have H2:=Lib.hid h2
 have Z1:=Lib.hid z1
 have Z2:=Lib.hid z2
 obtain ⟨c1,c2⟩:=fE k2
 obtain ⟨i,hci⟩:∃ i:Nat,h.cell=(i:Int):=⟨h.cell.toNat,by omega⟩
 have hi:i<c.cells.length:=by omega
 have e:bC c h=done c (aS 2 (cellAt c h.cell).e):=by simp at hc;simp [bC,hk,hh,hp0,hc]
 rw [e]
 obtain ⟨bb,bo,rfl,hb,hcell⟩:∃ b' o,a=some ⟨b',o,none⟩∧b'<w.heap.size∧w.cell? ⟨b',o+i*3+1,none⟩=some (.int .i64 (cellAt c h.cell).e):=by
  rcases H1.out with h0|⟨b',o',e,h1,h2⟩
  ·omega
  ·exact ⟨b',o',e,h1,by simpa [eT,cellAt,hci,C3.val] using h2 i 1 hi tO⟩
 have D:=Lib.hid fun v1 v2 W=>aW (c) (aS 2 (cellAt c h.cell).e) v1 v2 w.heap.size W
 generalize done c (aS 2 (cellAt c h.cell).e)=x at *
 generalize (cellAt c h.cell).e=el at *
 clear h1 h2 z1 z2 e k1 k2 n1 n2 c1 c2
 go_enter Tryz.func192,Tryz.ntmps192
 go_wp2_with fail;refine au w zB fun bb=>?_;refine (bZ c h 23 25 0 _ b p q _ (aT H1 bb) (aT H2 bb)).mono ?_;rintro _ w1 ⟨rfl,ag⟩;obtain ⟨aV,ak,zz⟩:=dV bb ag (b:=w.heap.size);(try simp at ak);(try simp [go_sem] at zz);replace bX:=dx zz;clear zz ag bb
 rw [hk]
 go_wp2_with fail;refine au w zB fun bb=>?_;refine (nk c h.mine _ _ _ _ _).mono ?_;rintro _ w0 ⟨rfl,hbw0⟩;obtain ⟨KV,xE,zz⟩:=dV bb hbw0 (b:=w.heap.size);(try simp at xE);(first|simp [go_sem,bX] at zz|simp [go_sem] at zz|skip);replace bX:=dx zz;clear zz hbw0 bb
 rw [hh]
 go_wp2_with fail;refine au w zB fun bb=>?_;refine (cO c _ b p q _ (aT H1 bb) Z1.out (aT H2 bb) Z2.out m1 m2).mono ?_;rintro _ w2 ⟨⟨v1,v2,rfl,o1,o2⟩,hbw2⟩;obtain ⟨dh,aR,zz⟩:=dV bb hbw2 (b:=w.heap.size);(try simp at aR);(first|simp [go_sem,bX] at zz|simp [go_sem] at zz|skip);replace bX:=dx zz;clear zz hbw2 bb
 have d1:=iH o1 (w.heap.size+1+1+1+1)
 have d2:=iH o2 (w.heap.size+1+1+1+1)
 have p1:=ay (lo':=w.heap.size) o1 tO
 have p2:=ay (lo':=w.heap.size) o2 tO
 obtain ⟨a1,q1,rfl,_⟩:=o1.seg
 obtain ⟨a2,q2,rfl,_⟩:=o2.seg
 obtain ⟨k0,k1,k2,k3⟩:=jW (a:=w.heap.size) (b:=w2.heap.size)
 have hcell2:=(dh.cell (p:=⟨bb,bo+i*3+1,none⟩) hb).trans hcell
 have hi0:(0:Int)≤(i:Int):=by omega
 have hi1:(i:Int)<(c.cells.length:Int):=by omega
 have hbb:bb<w2.heap.size:=by omega
 have hbn:bb≠w2.heap.size:=by omega
 have Qq:bb<w.heap.size+1:=by omega
 have Qr:bb≠w.heap.size+1:=by omega
 have Qs:bb<w.heap.size+1+1:=by omega
 have Qt:bb≠w.heap.size+1+1:=by omega
 have Qu:bb<w.heap.size+1+1+1:=by omega
 have Qv:bb≠w.heap.size+1+1+1:=by omega
 go_wp2_with fail
 go_region_held3 (fun w'=>hp w' w2.heap.size=some (.cells (af c (.slice a1 c.cells.length q1) (.slice a2 c.words.length q2)) 31)∧w'.cell? ⟨w.heap.size,4,none⟩=some (.slice (some ⟨bb,bo,none⟩) c.cells.length p)∧w'.cell? ⟨w.heap.size+1,3,none⟩=some (.int .i64 i)∧w'.cell? ⟨bb,bo+i*3+1,none⟩=some (.int .i64 el))
  (first|(simp [*,go_sem]))
  (first|((go_at_call 130;refine au w zB fun bb=>?_;refine au w2 zB fun bk=>?_;refine (fB _ _ _).mono ?_;rintro _ w5 ⟨rfl,bU⟩;have mE:=bT bb bU;have gK:=bU.size;(try simp at gK);have zz:=And.intro (hQ bU (b:=w2.heap.size)) <| And.intro (hQ bU (b:=w.heap.size+1+1+1)) <| And.intro (hQ bU (b:=w.heap.size+1+1)) <| And.intro (hQ bU (b:=w.heap.size+1)) <| hQ bU (b:=w.heap.size);(first|simp [go_sem,bX,k0,k1,k2,k3] at zz|simp [go_sem] at zz|skip);replace bX:=jb zz;clear zz;have gZ:=bT bk bU;clear bU bb bk);have Pb:=(mE.cell (p:=⟨bb,bo+i*3+1,none⟩) hb).trans hcell;have Qw:bb<w5.heap.size:=tO;have r1:=own_below p1 gZ;have r2:=own_below p2 gZ)|((go_at_call 198;refine au w zB fun bb=>?_;refine (D.out _ _ _ (zO r1 o1) (zO r2 o2)).mono ?_;rintro _ w3 ⟨⟨y1,y2,rfl,aO,aQ,dH,dF⟩,aC⟩;have iG:=bT bb aC;have bM:=aC.size;(try simp at bM);have zz:=And.intro (hQ aC (b:=w2.heap.size)) <| And.intro (hQ aC (b:=w.heap.size+1+1+1)) <| And.intro (hQ aC (b:=w.heap.size+1+1)) <| And.intro (hQ aC (b:=w.heap.size+1)) <| hQ aC (b:=w.heap.size);(first|simp [go_sem,bX,k0,k1,k2,k3] at zz|simp [go_sem] at zz|skip);replace bX:=jb zz;clear zz aC bb);have Pd:=(iG.cell (p:=⟨bb,bo+i*3+1,none⟩) hb).trans hcell;obtain ⟨⟨aD,aF⟩,dQ,dR⟩:=kH (w:=w) (w.heap.size+1+1+1+1) dH dF d1 d2;obtain ⟨ya,yp,rfl,_⟩:=aO.seg;obtain ⟨yb,yq,rfl,_⟩:=aQ.seg))
 all_goals go_wp2
 all_goals (refine rE Tryz.results192 rfl (az x.1 (.slice ya x.1.cells.length yp) (.slice yb x.1.words.length yq) tY) rfl (aj x.2.1 tY) ⟨⟨_,_,rfl,?_,?_,dQ,dR⟩,by exact zB⟩)
 all_goals (first|exact zP aO aO aD|skip)
 all_goals (first|exact zP aQ aQ aF|skip)
theorem nQ (c:Ch) (h:Ha) (a b:Option Addr) (p q:Nat) (w:World) (h1:eY w w.heap.size a c.cells) (z1:a=none→p=0) (h2:eZ w w.heap.size b c.words) (z2:b=none→q=0) :
  Calls Tryz.prog 192 #[.agg (af c (.slice a c.cells.length p) (.slice b c.words.length q)),.agg (aa h)] w fun r w'=>bQ w w' (bC c h) r:=by
 cases hk:aX c h 23 25 0 with
 | false=>exact F8 c h a b p q w h1 h2 hk
 | true =>
  cases hh:jo c h.mine with
  | false=>exact F9 c h a b p q w h1 h2 hk hh
  | true =>
   obtain ⟨k1,_,k3,k4⟩:=bu hk
   have hp:h.pos=23∨h.pos=24∨h.pos=25:=by omega
   rcases hp with hp|hp|hp
   ·exact IM c h a b p q w h1 z1 h2 z2 hk hh hp
   ·cases hc:h.code == 1 with
    | true=>exact FB c h a b p q w h1 h2 hk hh hp hc
    | false=>exact IP c h a b p q w h1 z1 h2 z2 hk hh hp hc
   ·cases hc:h.code == 1 with
    | true=>exact FC c h a b p q w h1 z1 h2 z2 hk hh hp hc
    | false=>exact FD c h a b p q w h1 z1 h2 z2 hk hh hp hc
end
section
open Go.RowKit
attribute [local simp] aI
attribute [local go_sem ↓] aH aU aM bz aN bB aA aK ax aB
theorem IQ (c:Ch) (h:Ha) (a b:Option Addr) (p q:Nat) (w:World) (h1:eY w w.heap.size a c.cells) (h2:eZ w w.heap.size b c.words) (hk:aX c h 16 22 2=false) :
  Calls Tryz.prog 191 #[.agg (af c (.slice a c.cells.length p) (.slice b c.words.length q)),.agg (aa h)] w fun r w'=>bQ w w' (aY c h) r:=by
 have e:aY c h=nothing:=by simp [aY,hk]
 rw [e]
 have H1:=Lib.hid h1
 have H2:=Lib.hid h2
 have T:=Lib.hid fun W=>fQ W w.heap.size (.slice none 0 0) (.slice none 0 0)
 generalize nothing=x at *
 clear h1 h2 e
 have d1:∀ j,(Value.slice none 0 0).ownBlock=some j→w.heap.size+1+1+1+1≤j:=fun j hj=>by cases hj
 have d2:=d1
 go_enter Tryz.func191,Tryz.ntmps191
 go_wp2_with fail;refine au w zB fun bb=>?_;refine (bZ c h 16 22 2 a b p q _ (aT H1 bb) (aT H2 bb)).mono ?_;rintro _ w1 ⟨rfl,ag⟩;obtain ⟨aV,ak,zz⟩:=dV bb ag (b:=w.heap.size);(try simp at ak);(try simp [go_sem] at zz);replace bX:=dx zz;clear zz ag bb
 rw [hk]
 go_wp2_with fail;refine au w zB fun bb=>?_;refine (T.out _).mono ?_;rintro _ w2 ⟨⟨y1,y2,rfl,aO,aQ,dH,dF⟩,hbw2⟩;obtain ⟨dh,aR,zz⟩:=dV bb hbw2 (b:=w.heap.size);(try simp at aR);(first|simp [go_sem,bX] at zz|simp [go_sem] at zz|skip);replace bX:=dx zz;clear zz hbw2 bb
 obtain ⟨⟨aD,aF⟩,dQ,dR⟩:=kH (w:=w) (w.heap.size+1+1+1+1) dH dF d1 d2;obtain ⟨ya,yp,rfl,_⟩:=aO.seg;obtain ⟨yb,yq,rfl,_⟩:=aQ.seg
 go_wp2
 refine rE Tryz.results191 rfl (az x.1 (.slice ya x.1.cells.length yp) (.slice yb x.1.words.length yq) tY) rfl (aj x.2.1 tY) ⟨⟨_,_,rfl,?_,?_,dQ,dR⟩,by exact zB⟩
 ·exact zP aO aO aD
 ·exact zP aQ aQ aF
theorem FH (c:Ch) (h:Ha) (a b:Option Addr) (p q:Nat) (w:World) (h1:eY w w.heap.size a c.cells) (z1:a=none→p=0) (h2:eZ w w.heap.size b c.words) (z2:b=none→q=0) (hk:aX c h 16 22 2=true) (hp0:h.pos=17) (hs:c.sent≤h.grow) :
  Calls Tryz.prog 191 #[.agg (af c (.slice a c.cells.length p) (.slice b c.words.length q)),.agg (aa h)] w fun r w'=>bQ w w' (aY c h) r:=by
 obtain ⟨k1,k2,_,_⟩:=bu hk
 obtain ⟨n1,n2⟩:=dM k1
 have m1:c.cells.length≤1099511627776:=by omega
 have m2:c.words.length≤1099511627776:=by omega
 have H1:=Lib.hid h1
 have H2:=Lib.hid h2
 have Z1:=Lib.hid z1
 have Z2:=Lib.hid z2
 have e:aY c h=done c (df h):=by simp [aY,hk,hp0,hs]
 rw [e]
 have D:=Lib.hid fun v1 v2 W=>aW (c) (df h) v1 v2 w.heap.size W
 generalize done c (df h)=x at *
 clear h1 h2 z1 z2 e k1 k2 n1 n2
 go_enter Tryz.func191,Tryz.ntmps191
 go_wp2_with fail;refine au w zB fun bb=>?_;refine (bZ c h 16 22 2 a b p q _ (aT H1 bb) (aT H2 bb)).mono ?_;rintro _ w1 ⟨rfl,ag⟩;obtain ⟨aV,ak,zz⟩:=dV bb ag (b:=w.heap.size);(try simp at ak);(try simp [go_sem] at zz);replace bX:=dx zz;clear zz ag bb
 rw [hk]
 go_wp2_with fail;refine au w zB fun bb=>?_;refine (cO c a b p q _ (aT H1 bb) Z1.out (aT H2 bb) Z2.out m1 m2).mono ?_;rintro _ w2 ⟨⟨v1,v2,rfl,o1,o2⟩,hbw2⟩;obtain ⟨dh,aR,zz⟩:=dV bb hbw2 (b:=w.heap.size);(try simp at aR);(first|simp [go_sem,bX] at zz|simp [go_sem] at zz|skip);replace bX:=dx zz;clear zz hbw2 bb
 have d1:=iH o1 (w.heap.size+1+1+1+1)
 have d2:=iH o2 (w.heap.size+1+1+1+1)
 have p1:=ay (lo':=w.heap.size) o1 tO
 have p2:=ay (lo':=w.heap.size) o2 tO
 obtain ⟨a1,q1,rfl,_⟩:=o1.seg
 obtain ⟨a2,q2,rfl,_⟩:=o2.seg
 go_wp2_with fail
 go_region_with (first|((go_at_call 209;refine au w zB fun bb=>?_;refine au w2 zB fun bk=>?_;refine (ib _ _).mono ?_;rintro _ w5 ⟨rfl,bU⟩;have mE:=bT bb bU;have gK:=bU.size;(try simp at gK);have zz:=And.intro (hQ bU (b:=w2.heap.size)) <| And.intro (hQ bU (b:=w.heap.size+1+1+1)) <| And.intro (hQ bU (b:=w.heap.size+1+1)) <| And.intro (hQ bU (b:=w.heap.size+1)) <| hQ bU (b:=w.heap.size);(first|simp [go_sem,bX] at zz|simp [go_sem] at zz|skip);replace bX:=jb zz;clear zz;have gZ:=bT bk bU;clear bU bb bk);have r1:=own_below p1 gZ;have r2:=own_below p2 gZ)|((go_at_call 198;refine au w zB fun bb=>?_;refine (D.out _ _ _ (zO r1 o1) (zO r2 o2)).mono ?_;rintro _ w3 ⟨⟨y1,y2,rfl,aO,aQ,dH,dF⟩,aC⟩;obtain ⟨iG,bM,zz⟩:=dV bb aC (b:=w.heap.size);(try simp at bM);(first|simp [go_sem,bX] at zz|simp [go_sem] at zz|skip);replace bX:=dx zz;clear zz aC bb);obtain ⟨⟨aD,aF⟩,dQ,dR⟩:=kH (w:=w) (w.heap.size+1+1+1+1) dH dF d1 d2;obtain ⟨ya,yp,rfl,_⟩:=aO.seg;obtain ⟨yb,yq,rfl,_⟩:=aQ.seg))
 all_goals go_wp2
 all_goals (refine rE Tryz.results191 rfl (az x.1 (.slice ya x.1.cells.length yp) (.slice yb x.1.words.length yq) tY) rfl (aj x.2.1 tY) ⟨⟨_,_,rfl,?_,?_,dQ,dR⟩,by exact zB⟩)
 all_goals (first|exact zP aO aO aD|skip)
 all_goals (first|exact zP aQ aQ aF|skip)
theorem FI (c:Ch) (h:Ha) (a b:Option Addr) (p q:Nat) (w:World) (h1:eY w w.heap.size a c.cells) (z1:a=none→p=0) (h2:eZ w w.heap.size b c.words) (z2:b=none→q=0) (hk:aX c h 16 22 2=true) (hp0:h.pos=17) (hs:¬ c.sent≤h.grow) :
  Calls Tryz.prog 191 #[.agg (af c (.slice a c.cells.length p) (.slice b c.words.length q)),.agg (aa h)] w fun r w'=>bQ w w' (aY c h) r:=by
 obtain ⟨k1,k2,_,_⟩:=bu hk
 obtain ⟨n1,n2⟩:=dM k1
 have m1:c.cells.length≤1099511627776:=by omega
 have m2:c.words.length≤1099511627776:=by omega
 have H1:=Lib.hid h1
 have H2:=Lib.hid h2
 have Z1:=Lib.hid z1
 have Z2:=Lib.hid z2
 have e:aY c h=done (c) ({ h with pos:=18 }):=by simp [aY,hk,hp0,hs]
 rw [e]
 have D:=Lib.hid fun v1 v2 W=>aW (c) ({ h with pos:=18 }) v1 v2 w.heap.size W
 generalize done (c) ({ h with pos:=18 })=x at *
 clear h1 h2 z1 z2 e k1 k2 n1 n2
 go_enter Tryz.func191,Tryz.ntmps191
 go_wp2_with fail;refine au w zB fun bb=>?_;refine (bZ c h 16 22 2 a b p q _ (aT H1 bb) (aT H2 bb)).mono ?_;rintro _ w1 ⟨rfl,ag⟩;obtain ⟨aV,ak,zz⟩:=dV bb ag (b:=w.heap.size);(try simp at ak);(try simp [go_sem] at zz);replace bX:=dx zz;clear zz ag bb
 rw [hk]
 go_wp2_with fail;refine au w zB fun bb=>?_;refine (cO c a b p q _ (aT H1 bb) Z1.out (aT H2 bb) Z2.out m1 m2).mono ?_;rintro _ w2 ⟨⟨v1,v2,rfl,o1,o2⟩,hbw2⟩;obtain ⟨dh,aR,zz⟩:=dV bb hbw2 (b:=w.heap.size);(try simp at aR);(first|simp [go_sem,bX] at zz|simp [go_sem] at zz|skip);replace bX:=dx zz;clear zz hbw2 bb
 have d1:=iH o1 (w.heap.size+1+1+1+1)
 have d2:=iH o2 (w.heap.size+1+1+1+1)
 have p1:=ay (lo':=w.heap.size) o1 tO
 have p2:=ay (lo':=w.heap.size) o2 tO
 obtain ⟨a1,q1,rfl,_⟩:=o1.seg
 obtain ⟨a2,q2,rfl,_⟩:=o2.seg
 go_wp2_with fail;refine au w zB fun bb=>?_;refine (D.out _ _ _ (zO p1 o1) (zO p2 o2)).mono ?_;rintro _ w3 ⟨⟨y1,y2,rfl,aO,aQ,dH,dF⟩,aC⟩;obtain ⟨iG,bM,zz⟩:=dV bb aC (b:=w.heap.size);(try simp at bM);(first|simp [go_sem,bX] at zz|simp [go_sem] at zz|skip);replace bX:=dx zz;clear zz aC bb
 obtain ⟨⟨aD,aF⟩,dQ,dR⟩:=kH (w:=w) (w.heap.size+1+1+1+1) dH dF d1 d2;obtain ⟨ya,yp,rfl,_⟩:=aO.seg;obtain ⟨yb,yq,rfl,_⟩:=aQ.seg
 go_wp2
 refine rE Tryz.results191 rfl (az x.1 (.slice ya x.1.cells.length yp) (.slice yb x.1.words.length yq) tY) rfl (aj x.2.1 tY) ⟨⟨_,_,rfl,?_,?_,dQ,dR⟩,by exact zB⟩
 ·exact zP aO aO aD
 ·exact zP aQ aQ aF
theorem sN (c:Ch) (h:Ha) (a b:Option Addr) (p q:Nat) (w:World) (h1:eY w w.heap.size a c.cells) (z1:a=none→p=0) (h2:eZ w w.heap.size b c.words) (z2:b=none→q=0) (hk:aX c h 16 22 2=true) (hp0:h.pos=20) :
  (∀ (ht:eU c h.wait 1=true),Calls Tryz.prog 191 #[.agg (af c (.slice a c.cells.length p) (.slice b c.words.length q)),.agg (aa h)] w fun r w'=>bQ w w' (aY c h) r) ∧
  (∀ (ht:eU c h.wait 1=false),Calls Tryz.prog 191 #[.agg (af c (.slice a c.cells.length p) (.slice b c.words.length q)),.agg (aa h)] w fun r w'=>bQ w w' (aY c h) r):=by
 constructor
 case' left =>
  intro ht
  have mA:Hid (0=0):=rfl
 case' right =>
  intro ht
  have mB:Hid (0=0):=rfl
 all_goals
  obtain ⟨k1,k2,_,_⟩:=bu hk
  obtain ⟨n1,n2⟩:=dM k1
  have m1:c.cells.length≤1099511627776:=by omega
  have m2:c.words.length≤1099511627776:=by omega
  have H1:=Lib.hid h1
  have H2:=Lib.hid h2
  have Z1:=Lib.hid z1
  have Z2:=Lib.hid z2
  first
  | (replace mA:=mA;have e:aY c h=done (dD c h.wait 1) ({ h with pos:=21 }):=by simp [aY,hk,hp0,pE,ht])
  | (replace mB:=mB;have e:aY c h=done (dD c h.wait 1) ({ h with pos:=22 }):=by simp [aY,hk,hp0,pE,ht])
  rw [e]
  have K:=fun a b p q W x1 x2 x3 x4=>nC c h.wait 1 a b p q W x1 x2 x3 x4 m1 m2
  first
  | (replace mA:=mA;have D:=fun v1 v2 W=>aW (dD c h.wait 1) ({ h with pos:=21 }) v1 v2 w.heap.size W)
  | (replace mB:=mB;have D:=fun v1 v2 W=>aW (dD c h.wait 1) ({ h with pos:=22 }) v1 v2 w.heap.size W)
  simp only [pG,oq] at D
  rw [ht] at K
  first
  | (replace mA:=mA;generalize done (dD c h.wait 1) ({ h with pos:=21 })=x at *)
  | (replace mB:=mB;generalize done (dD c h.wait 1) ({ h with pos:=22 })=x at *)
  generalize (dD c h.wait 1).words=tw at *
  replace K:=Lib.hid K
  replace D:=Lib.hid D
  clear ht
  clear h1 h2 z1 z2 e k1 k2 n1 n2
  go_enter Tryz.func191,Tryz.ntmps191
  go_wp2_with fail;refine au w zB fun bb=>?_;refine (bZ c h 16 22 2 a b p q _ (aT H1 bb) (aT H2 bb)).mono ?_;rintro _ w1 ⟨rfl,ag⟩;obtain ⟨aV,ak,zz⟩:=dV bb ag (b:=w.heap.size);(try simp at ak);(try simp [go_sem] at zz);replace bX:=dx zz;clear zz ag bb
  rw [hk]
  go_wp2_with fail;refine au w zB fun bb=>?_;refine (cO c a b p q _ (aT H1 bb) Z1.out (aT H2 bb) Z2.out m1 m2).mono ?_;rintro _ w2 ⟨⟨v1,v2,rfl,o1,o2⟩,hbw2⟩;obtain ⟨dh,aR,zz⟩:=dV bb hbw2 (b:=w.heap.size);(try simp at aR);(first|simp [go_sem,bX] at zz|simp [go_sem] at zz|skip);replace bX:=dx zz;clear zz hbw2 bb
  have d1:=iH o1 (w.heap.size+1+1+1+1)
  have d2:=iH o2 (w.heap.size+1+1+1+1)
  have p1:=ay (lo':=w.heap.size) o1 tO
  have p2:=ay (lo':=w.heap.size) o2 tO
  obtain ⟨a1,q1,rfl,_⟩:=o1.seg
  obtain ⟨a2,q2,rfl,_⟩:=o2.seg
  obtain ⟨k0,k1,k2,k3⟩:=jW (a:=w.heap.size) (b:=w2.heap.size)
  go_wp2_with fail;refine au w zB fun bb=>?_;refine au w2 zB fun bk=>?_;refine (K.out _ _ _ _ _ (aT H1 bb) Z1.out (aT H2 bb) Z2.out).mono ?_;rintro _ w4 ⟨⟨u1,u2,rfl,u3,u4⟩,d9⟩;have kI:=bT bb d9;have gu:=d9.size;(try simp at gu);have zz:=And.intro (hQ d9 (b:=w2.heap.size)) <| And.intro (hQ d9 (b:=w.heap.size+1+1+1)) <| And.intro (hQ d9 (b:=w.heap.size+1+1)) <| And.intro (hQ d9 (b:=w.heap.size+1)) <| hQ d9 (b:=w.heap.size);(first|simp [go_sem,bX,k0,k1,k2,k3] at zz|simp [go_sem] at zz|skip);replace bX:=jb zz;clear zz;have mP:=bT bk d9;clear d9 bb bk
  try simp at u3 u4
  have d3:=iH u3 (w.heap.size+1+1+1+1)
  have d4:=iH u4 (w.heap.size+1+1+1+1)
  clear d1 d2
  have d1:=d3
  have d2:=d4
  clear d3 d4
  have s1:=ay (lo':=w.heap.size) u3 tO
  have s2:=ay (lo':=w.heap.size) u4 tO
  have b3:=fun j (hj:u1.ownBlock=some j)=>(u3.lt j hj).1
  have b4:=fun j (hj:u2.ownBlock=some j)=>(u4.lt j hj).1
  have g3:u1.ownBlock≠some w2.heap.size:=fun e=>by have:=b3 _ e;omega
  have g4:u2.ownBlock≠some w2.heap.size:=fun e=>by have:=b4 _ e;omega
  obtain ⟨ua,up,rfl,_⟩:=u3.seg
  obtain ⟨ub,uq,rfl,_⟩:=u4.seg
  go_wp2_with fail;refine au w zB fun bb=>?_;refine (D.out _ _ _ (by (repeat first|with_reducible exact s1|with_reducible refine xS ?_ _|with_reducible refine uZ ?_|((with_reducible first|refine bP ?_ ?_ _|refine fI ?_ ?_);rotate_left;focus first|(refine own_ne u3 ?_;(try dsimp only);omega)|(refine fU u3 ?_;(try dsimp only);omega)|exact g3))) (by (repeat first|with_reducible exact s2|with_reducible refine xS ?_ _|with_reducible refine uZ ?_|((with_reducible first|refine bP ?_ ?_ _|refine fI ?_ ?_);rotate_left;focus first|(refine own_ne u4 ?_;(try dsimp only);omega)|(refine fU u4 ?_;(try dsimp only);omega)|exact g4)))).mono ?_;rintro _ w3 ⟨⟨y1,y2,rfl,aO,aQ,dH,dF⟩,aC⟩;obtain ⟨iG,bM,zz⟩:=dV bb aC (b:=w.heap.size);(try simp at bM);(first|simp [go_sem,bX,k0,k1,k2,k3] at zz|simp [go_sem] at zz|skip);replace bX:=dx zz;clear zz aC bb
  obtain ⟨⟨aD,aF⟩,dQ,dR⟩:=kH (w:=w) (w.heap.size+1+1+1+1) dH dF d1 d2;obtain ⟨ya,yp,rfl,_⟩:=aO.seg;obtain ⟨yb,yq,rfl,_⟩:=aQ.seg
  go_wp2
  refine rE Tryz.results191 rfl (az x.1 (.slice ya x.1.cells.length yp) (.slice yb x.1.words.length yq) tY) rfl (aj x.2.1 tY) ⟨⟨_,_,rfl,?_,?_,dQ,dR⟩,by exact zB⟩
  ·exact zP aO aO aD
  ·exact zP aQ aQ aF
theorem FJ (c:Ch) (h:Ha) (a b:Option Addr) (p q:Nat) (w:World) (h1:eY w w.heap.size a c.cells) (z1:a=none→p=0) (h2:eZ w w.heap.size b c.words) (z2:b=none→q=0) (hk:aX c h 16 22 2=true) (hp0:h.pos=20) (ht:eU c h.wait 1=true) :
  Calls Tryz.prog 191 #[.agg (af c (.slice a c.cells.length p) (.slice b c.words.length q)),.agg (aa h)] w fun r w'=>bQ w w' (aY c h) r:=(sN c h a b p q w h1 z1 h2 z2 hk hp0).1 ht
theorem FK (c:Ch) (h:Ha) (a b:Option Addr) (p q:Nat) (w:World) (h1:eY w w.heap.size a c.cells) (z1:a=none→p=0) (h2:eZ w w.heap.size b c.words) (z2:b=none→q=0) (hk:aX c h 16 22 2=true) (hp0:h.pos=20) (ht:eU c h.wait 1=false) :
  Calls Tryz.prog 191 #[.agg (af c (.slice a c.cells.length p) (.slice b c.words.length q)),.agg (aa h)] w fun r w'=>bQ w w' (aY c h) r:=(sN c h a b p q w h1 z1 h2 z2 hk hp0).2 ht
end
section
open Go.RowKit
attribute [local simp] aI
attribute [local go_sem ↓] aH aU aM bz aN bB aA aK ax aB
theorem FL (c:Ch) (h:Ha) (a b:Option Addr) (p q:Nat) (w:World) (h1:eY w w.heap.size a c.cells) (z1:a=none→p=0) (h2:eZ w w.heap.size b c.words) (z2:b=none→q=0) (hk:aX c h 16 22 2=true) (hp0:h.pos=18) (hs:(cellAt c h.grow).s=5) :
  Calls Tryz.prog 191 #[.agg (af c (.slice a c.cells.length p) (.slice b c.words.length q)),.agg (aa h)] w fun r w'=>bQ w w' (aY c h) r:=by
 obtain ⟨k1,k2,_,_⟩:=bu hk
 obtain ⟨n1,n2⟩:=dM k1
 have m1:c.cells.length≤1099511627776:=by omega
 have m2:c.words.length≤1099511627776:=by omega
 have H1:=Lib.hid h1
 have H2:=Lib.hid h2
 have Z1:=Lib.hid z1
 have Z2:=Lib.hid z2
 obtain ⟨c1,c2⟩:=lq k2
 obtain ⟨i,hci⟩:∃ i:Nat,h.grow=(i:Int):=⟨h.grow.toNat,by omega⟩
 have hi:i<c.cells.length:=by omega
 have e:aY c h=(c,h,false):=by simp [aY,hk,hp0,kg,hs]
 rw [e]
 obtain ⟨bb,bo,rfl,hb,hcell⟩:∃ b' o,a=some ⟨b',o,none⟩∧b'<w.heap.size∧w.cell? ⟨b',o+i*3,none⟩=some (.int .i64 (cellAt c h.grow).s):=by
  rcases H1.out with h0|⟨b',o',e,h1,h2⟩
  ·omega
  ·exact ⟨b',o',e,h1,by simpa [eT,cellAt,hci,C3.val] using h2 i 0 hi tO⟩
 generalize (cellAt c h.grow).s=s at *
 subst hs
 clear h1 h2 z1 z2 e k1 k2 n1 n2 c1 c2
 go_enter Tryz.func191,Tryz.ntmps191
 go_wp2_with fail;refine au w zB fun bb=>?_;refine (bZ c h 16 22 2 _ b p q _ (aT H1 bb) (aT H2 bb)).mono ?_;rintro _ w1 ⟨rfl,ag⟩;obtain ⟨aV,ak,zz⟩:=dV bb ag (b:=w.heap.size);(try simp at ak);(try simp [go_sem] at zz);replace bX:=dx zz;clear zz ag bb
 rw [hk]
 go_wp2_with fail;refine au w zB fun bb=>?_;refine (cO c _ b p q _ (aT H1 bb) Z1.out (aT H2 bb) Z2.out m1 m2).mono ?_;rintro _ w2 ⟨⟨v1,v2,rfl,o1,o2⟩,hbw2⟩;obtain ⟨dh,aR,zz⟩:=dV bb hbw2 (b:=w.heap.size);(try simp at aR);(first|simp [go_sem,bX] at zz|simp [go_sem] at zz|skip);replace bX:=dx zz;clear zz hbw2 bb
 have d1:=iH o1 (w.heap.size+1+1+1+1)
 have d2:=iH o2 (w.heap.size+1+1+1+1)
 have p1:=ay (lo':=w.heap.size) o1 tO
 have p2:=ay (lo':=w.heap.size) o2 tO
 obtain ⟨a1,q1,rfl,_⟩:=o1.seg
 obtain ⟨a2,q2,rfl,_⟩:=o2.seg
 obtain ⟨k0,k1,k2,k3⟩:=jW (a:=w.heap.size) (b:=w2.heap.size)
 have hcell2:=(dh.cell (p:=⟨bb,bo+i*3,none⟩) hb).trans hcell
 have hi0:(0:Int)≤(i:Int):=by omega
 have hi1:(i:Int)<(c.cells.length:Int):=by omega
 have hbb:bb<w2.heap.size:=by omega
 have hbn:bb≠w2.heap.size:=by omega
 go_wp2_with fail
 go_region
 all_goals go_wp2
 all_goals (refine rE Tryz.results191 rfl (az c (.slice a1 c.cells.length q1) (.slice a2 c.words.length q2) tY) rfl (aj h tY) ⟨⟨_,_,rfl,?_,?_,fun j hj=>.inr (by have:=d1 j hj;omega),fun j hj=>.inr (by have:=d2 j hj;omega)⟩,by exact zB⟩)
 all_goals first|(show ah _ _ _ c.cells;exact zO p1 o1)|skip
 all_goals first|(show ai _ _ _ c.words;exact zO p2 o2)|skip
theorem FM (c:Ch) (h:Ha) (a b:Option Addr) (p q:Nat) (w:World) (h1:eY w w.heap.size a c.cells) (z1:a=none→p=0) (h2:eZ w w.heap.size b c.words) (z2:b=none→q=0) (hk:aX c h 16 22 2=true) (hp0:h.pos=18) (hs:((cellAt c h.grow).s == 5)=false) :
  Calls Tryz.prog 191 #[.agg (af c (.slice a c.cells.length p) (.slice b c.words.length q)),.agg (aa h)] w fun r w'=>bQ w w' (aY c h) r:=by
 obtain ⟨k1,k2,_,_⟩:=bu hk
 obtain ⟨n1,n2⟩:=dM k1
 have m1:c.cells.length≤1099511627776:=by omega
 have m2:c.words.length≤1099511627776:=by omega
 have H1:=Lib.hid h1
 have H2:=Lib.hid h2
 have Z1:=Lib.hid z1
 have Z2:=Lib.hid z2
 obtain ⟨c1,c2⟩:=lq k2
 obtain ⟨i,hci⟩:∃ i:Nat,h.grow=(i:Int):=⟨h.grow.toNat,by omega⟩
 have hi:i<c.cells.length:=by omega
 have e:aY c h=done c (jG c h):=by simp at hs;simp [aY,hk,hp0,kg,hs]
 rw [e]
 obtain ⟨bb,bo,rfl,hb,hcell⟩:∃ b' o,a=some ⟨b',o,none⟩∧b'<w.heap.size∧w.cell? ⟨b',o+i*3,none⟩=some (.int .i64 (cellAt c h.grow).s):=by
  rcases H1.out with h0|⟨b',o',e,h1,h2⟩
  ·omega
  ·exact ⟨b',o',e,h1,by simpa [eT,cellAt,hci,C3.val] using h2 i 0 hi tO⟩
 generalize (cellAt c h.grow).s=s at *
 have K:=fun W x1=>Ck c h (some ⟨bb,bo,none⟩) b p q W x1 c1 tO
 have D:=Lib.hid fun v1 v2 W=>aW (c) (jG c h) v1 v2 w.heap.size W
 generalize done c (jG c h)=x at *
 generalize jG c h=y at *
 replace K:=Lib.hid K
 clear h1 h2 z1 z2 e k1 k2 n1 n2 c1 c2
 go_enter Tryz.func191,Tryz.ntmps191
 go_wp2_with fail;refine au w zB fun bb=>?_;refine (bZ c h 16 22 2 _ b p q _ (aT H1 bb) (aT H2 bb)).mono ?_;rintro _ w1 ⟨rfl,ag⟩;obtain ⟨aV,ak,zz⟩:=dV bb ag (b:=w.heap.size);(try simp at ak);(try simp [go_sem] at zz);replace bX:=dx zz;clear zz ag bb
 rw [hk]
 go_wp2_with fail;refine au w zB fun bb=>?_;refine (cO c _ b p q _ (aT H1 bb) Z1.out (aT H2 bb) Z2.out m1 m2).mono ?_;rintro _ w2 ⟨⟨v1,v2,rfl,o1,o2⟩,hbw2⟩;obtain ⟨dh,aR,zz⟩:=dV bb hbw2 (b:=w.heap.size);(try simp at aR);(first|simp [go_sem,bX] at zz|simp [go_sem] at zz|skip);replace bX:=dx zz;clear zz hbw2 bb
 have d1:=iH o1 (w.heap.size+1+1+1+1)
 have d2:=iH o2 (w.heap.size+1+1+1+1)
 have p1:=ay (lo':=w.heap.size) o1 tO
 have p2:=ay (lo':=w.heap.size) o2 tO
 obtain ⟨a1,q1,rfl,_⟩:=o1.seg
 obtain ⟨a2,q2,rfl,_⟩:=o2.seg
 obtain ⟨k0,k1,k2,k3⟩:=jW (a:=w.heap.size) (b:=w2.heap.size)
 have hcell2:=(dh.cell (p:=⟨bb,bo+i*3,none⟩) hb).trans hcell
 have hi0:(0:Int)≤(i:Int):=by omega
 have hi1:(i:Int)<(c.cells.length:Int):=by omega
 have hbb:bb<w2.heap.size:=by omega
 have hbn:bb≠w2.heap.size:=by omega
 go_wp2_with fail;refine au w zB fun bb=>?_;refine au w2 zB fun bk=>?_;refine (K.out _ (aT H1 bb)).mono ?_;rintro _ w4 ⟨rfl,d9⟩;have kI:=bT bb d9;have gu:=d9.size;(try simp at gu);have zz:=And.intro (hQ d9 (b:=w2.heap.size)) <| And.intro (hQ d9 (b:=w.heap.size+1+1+1)) <| And.intro (hQ d9 (b:=w.heap.size+1+1)) <| And.intro (hQ d9 (b:=w.heap.size+1)) <| hQ d9 (b:=w.heap.size);(first|simp [go_sem,bX,k0,k1,k2,k3] at zz|simp [go_sem] at zz|skip);replace bX:=jb zz;clear zz;have mP:=bT bk d9;clear d9 bb bk
 have s1:=own_below p1 mP
 have s2:=own_below p2 mP
 go_wp2_with fail;refine au w zB fun bb=>?_;refine (D.out _ _ _ (zO s1 o1) (zO s2 o2)).mono ?_;rintro _ w3 ⟨⟨y1,y2,rfl,aO,aQ,dH,dF⟩,aC⟩;obtain ⟨iG,bM,zz⟩:=dV bb aC (b:=w.heap.size);(try simp at bM);(first|simp [go_sem,bX,k0,k1,k2,k3] at zz|simp [go_sem] at zz|skip);replace bX:=dx zz;clear zz aC bb
 obtain ⟨⟨aD,aF⟩,dQ,dR⟩:=kH (w:=w) (w.heap.size+1+1+1+1) dH dF d1 d2;obtain ⟨ya,yp,rfl,_⟩:=aO.seg;obtain ⟨yb,yq,rfl,_⟩:=aQ.seg
 go_wp2
 refine rE Tryz.results191 rfl (az x.1 (.slice ya x.1.cells.length yp) (.slice yb x.1.words.length yq) tY) rfl (aj x.2.1 tY) ⟨⟨_,_,rfl,?_,?_,dQ,dR⟩,by exact zB⟩
 ·exact zP aO aO aD
 ·exact zP aQ aQ aF
theorem IU (c:Ch) (h:Ha) (a b:Option Addr) (p q:Nat) (w:World) (h1:eY w w.heap.size a c.cells) (z1:a=none→p=0) (h2:eZ w w.heap.size b c.words) (z2:b=none→q=0) (hk:aX c h 16 22 2=true) (hp0:h.pos=21) :
  Calls Tryz.prog 191 #[.agg (af c (.slice a c.cells.length p) (.slice b c.words.length q)),.agg (aa h)] w fun r w'=>bQ w w' (aY c h) r:=by
 obtain ⟨k1,k2,_,_⟩:=bu hk
 obtain ⟨n1,n2⟩:=dM k1
 have m1:c.cells.length≤1099511627776:=by omega
 have m2:c.words.length≤1099511627776:=by omega
 have H1:=Lib.hid h1
 have H2:=Lib.hid h2
 have Z1:=Lib.hid z1
 have Z2:=Lib.hid z2
 obtain ⟨c1,c2⟩:=lq k2
 obtain ⟨i,hci⟩:∃ i:Nat,h.grow=(i:Int):=⟨h.grow.toNat,by omega⟩
 have hi:i<c.cells.length:=by omega
 have e:aY c h=done (bH c i 2) (df h):=by simp [aY,hk,hp0,hci]
 rw [e]
 have ST:=Lib.hid fun v1 v2 W=>iM c i 2 v1 v2 w.heap.size W
 have D:=fun v1 v2 W=>aW (bH c i 2) (df h) v1 v2 w.heap.size W
 simp only [jh,iQ] at D
 generalize done (bH c i 2) (df h)=x at *
 replace D:=Lib.hid D
 clear h1 h2 z1 z2 e k1 k2 n1 n2 c1 c2
 go_enter Tryz.func191,Tryz.ntmps191
 go_wp2_with fail;refine au w zB fun bb=>?_;refine (bZ c h 16 22 2 a b p q _ (aT H1 bb) (aT H2 bb)).mono ?_;rintro _ w1 ⟨rfl,ag⟩;obtain ⟨aV,ak,zz⟩:=dV bb ag (b:=w.heap.size);(try simp at ak);(try simp [go_sem] at zz);replace bX:=dx zz;clear zz ag bb
 rw [hk]
 go_wp2_with fail;refine au w zB fun bb=>?_;refine (cO c a b p q _ (aT H1 bb) Z1.out (aT H2 bb) Z2.out m1 m2).mono ?_;rintro _ w2 ⟨⟨v1,v2,rfl,o1,o2⟩,hbw2⟩;obtain ⟨dh,aR,zz⟩:=dV bb hbw2 (b:=w.heap.size);(try simp at aR);(first|simp [go_sem,bX] at zz|simp [go_sem] at zz|skip);replace bX:=dx zz;clear zz hbw2 bb
 have d1:=iH o1 (w.heap.size+1+1+1+1)
 have d2:=iH o2 (w.heap.size+1+1+1+1)
 have p1:=ay (lo':=w.heap.size) o1 tO
 have p2:=ay (lo':=w.heap.size) o2 tO
 obtain ⟨a1,q1,rfl,_⟩:=o1.seg
 obtain ⟨a2,q2,rfl,_⟩:=o2.seg
 have nw:∀ j,(j<w.heap.size+1+1+1+1∨w2.heap.size≤j)→some j≠(Value.slice a1 c.cells.length q1).ownBlock:=fun j hj e=>by have:=d1 _ e.symm;have:=(o1.lt _ e.symm).2;omega
 have LV:=nw (w.heap.size) tO
 have JU:=nw (w.heap.size+1) tO
 have JV:=nw (w.heap.size+1+1) tO
 have Lr:=nw (w.heap.size+1+1+1) tO
 have MN:=nw w2.heap.size tO
 obtain ⟨k0,k1,k2,k3⟩:=jW (a:=w.heap.size) (b:=w2.heap.size)
 go_wp2_with fail
 go_region_held3 (fun w'=>hp w' w2.heap.size=some (.cells (af c (.slice a1 c.cells.length q1) (.slice a2 c.words.length q2)) 31)∧hp w' (w.heap.size+1)=some (.cells (aa h) 49)∧w'.cell? ⟨w.heap.size+1,8,none⟩=some (.int .i64 i))
  (first|(simp [*,go_sem]))
  (first|(go_at_call 203;refine (ST.out _ _ _ (zO p1 o1) (zO p2 o2) hi).mono ?_;rintro _ w4 ⟨rfl,s1,s2,fw⟩;have gu:=fw.size;(try (simp at gu));have zz:=And.intro (dN fw (b:=w2.heap.size) tS (by assumption)) <| And.intro (dN fw (b:=w.heap.size+1+1+1) tS (by assumption)) <| And.intro (dN fw (b:=w.heap.size+1+1) tS (by assumption)) <| And.intro (dN fw (b:=w.heap.size+1) tS (by assumption)) <| dN fw (b:=w.heap.size) tS (by assumption);(first|simp [go_sem,bX,k0,k1,k2,k3] at zz|simp [go_sem] at zz|skip);replace bX:=jb zz;clear zz;have kI:Below w.heap.size w w4:=lI zB fw tS (fun k hk=>by have:=d1 k hk;omega);clear fw)|((go_at_call 209;refine au w zB fun bb=>?_;refine au w4 zB fun bk=>?_;refine (ib _ _).mono ?_;rintro _ w5 ⟨rfl,bU⟩;have mE:=bT bb bU;have gK:=bU.size;(try simp at gK);have zz:=And.intro (hQ bU (b:=w2.heap.size)) <| And.intro (hQ bU (b:=w.heap.size+1+1+1)) <| And.intro (hQ bU (b:=w.heap.size+1+1)) <| And.intro (hQ bU (b:=w.heap.size+1)) <| hQ bU (b:=w.heap.size);(first|simp [go_sem,bX,k0,k1,k2,k3] at zz|simp [go_sem] at zz|skip);replace bX:=jb zz;clear zz;have gZ:=bT bk bU;clear bU bb bk);have r1:=own_below s1 gZ;have r2:=own_below s2 gZ)|((go_at_call 198;refine au w zB fun bb=>?_;refine (D.out _ _ _ (zO r1 o1) (zO r2 o2)).mono ?_;rintro _ w3 ⟨⟨y1,y2,rfl,aO,aQ,dH,dF⟩,aC⟩;have iG:=bT bb aC;have bM:=aC.size;(try simp at bM);have zz:=And.intro (hQ aC (b:=w2.heap.size)) <| And.intro (hQ aC (b:=w.heap.size+1+1+1)) <| And.intro (hQ aC (b:=w.heap.size+1+1)) <| And.intro (hQ aC (b:=w.heap.size+1)) <| hQ aC (b:=w.heap.size);(first|simp [go_sem,bX,k0,k1,k2,k3] at zz|simp [go_sem] at zz|skip);replace bX:=jb zz;clear zz aC bb);obtain ⟨⟨aD,aF⟩,dQ,dR⟩:=kH (w:=w) (w.heap.size+1+1+1+1) dH dF d1 d2;obtain ⟨ya,yp,rfl,_⟩:=aO.seg;obtain ⟨yb,yq,rfl,_⟩:=aQ.seg))
 all_goals go_wp2
 all_goals (refine rE Tryz.results191 rfl (az x.1 (.slice ya x.1.cells.length yp) (.slice yb x.1.words.length yq) tY) rfl (aj x.2.1 tY) ⟨⟨_,_,rfl,?_,?_,dQ,dR⟩,by exact zB⟩)
 all_goals (first|exact zP aO aO aD|skip)
 all_goals (first|exact zP aQ aQ aF|skip)
theorem IV (c:Ch) (h:Ha) (a b:Option Addr) (p q:Nat) (w:World) (h1:eY w w.heap.size a c.cells) (z1:a=none→p=0) (h2:eZ w w.heap.size b c.words) (z2:b=none→q=0) (hk:aX c h 16 22 2=true) (hp0:h.pos=22) :
  Calls Tryz.prog 191 #[.agg (af c (.slice a c.cells.length p) (.slice b c.words.length q)),.agg (aa h)] w fun r w'=>bQ w w' (aY c h) r:=by
 obtain ⟨k1,k2,_,_⟩:=bu hk
 obtain ⟨n1,n2⟩:=dM k1
 have m1:c.cells.length≤1099511627776:=by omega
 have m2:c.words.length≤1099511627776:=by omega
 have H1:=Lib.hid h1
 have H2:=Lib.hid h2
 have Z1:=Lib.hid z1
 have Z2:=Lib.hid z2
 obtain ⟨c1,c2⟩:=lq k2
 obtain ⟨i,hci⟩:∃ i:Nat,h.grow=(i:Int):=⟨h.grow.toNat,by omega⟩
 have hi:i<c.cells.length:=by omega
 have e:aY c h=done (bH c i 9) ({ h with pos:=16,grow:=(i:Int) }):=by simp [aY,hk,hp0,hci]
 rw [e]
 have ST:=Lib.hid fun v1 v2 W=>iM c i 9 v1 v2 w.heap.size W
 have D:=fun v1 v2 W=>aW (bH c i 9) ({ h with pos:=16,grow:=(i:Int) }) v1 v2 w.heap.size W
 simp only [jh,iQ] at D
 generalize done (bH c i 9) ({ h with pos:=16,grow:=(i:Int) })=x at *
 replace D:=Lib.hid D
 clear h1 h2 z1 z2 e k1 k2 n1 n2 c1 c2
 go_enter Tryz.func191,Tryz.ntmps191
 go_wp2_with fail;refine au w zB fun bb=>?_;refine (bZ c h 16 22 2 a b p q _ (aT H1 bb) (aT H2 bb)).mono ?_;rintro _ w1 ⟨rfl,ag⟩;obtain ⟨aV,ak,zz⟩:=dV bb ag (b:=w.heap.size);(try simp at ak);(try simp [go_sem] at zz);replace bX:=dx zz;clear zz ag bb
 rw [hk]
 go_wp2_with fail;refine au w zB fun bb=>?_;refine (cO c a b p q _ (aT H1 bb) Z1.out (aT H2 bb) Z2.out m1 m2).mono ?_;rintro _ w2 ⟨⟨v1,v2,rfl,o1,o2⟩,hbw2⟩;obtain ⟨dh,aR,zz⟩:=dV bb hbw2 (b:=w.heap.size);(try simp at aR);(first|simp [go_sem,bX] at zz|simp [go_sem] at zz|skip);replace bX:=dx zz;clear zz hbw2 bb
 have d1:=iH o1 (w.heap.size+1+1+1+1)
 have d2:=iH o2 (w.heap.size+1+1+1+1)
 have p1:=ay (lo':=w.heap.size) o1 tO
 have p2:=ay (lo':=w.heap.size) o2 tO
 obtain ⟨a1,q1,rfl,_⟩:=o1.seg
 obtain ⟨a2,q2,rfl,_⟩:=o2.seg
 have nw:∀ j,(j<w.heap.size+1+1+1+1∨w2.heap.size≤j)→some j≠(Value.slice a1 c.cells.length q1).ownBlock:=fun j hj e=>by have:=d1 _ e.symm;have:=(o1.lt _ e.symm).2;omega
 have LV:=nw (w.heap.size) tO
 have JU:=nw (w.heap.size+1) tO
 have JV:=nw (w.heap.size+1+1) tO
 have Lr:=nw (w.heap.size+1+1+1) tO
 have MN:=nw w2.heap.size tO
 go_wp2_with fail
 refine (ST.out _ _ _ (zO p1 o1) (zO p2 o2) hi).mono ?_
 rintro _ w4 ⟨rfl,s1,s2,fw⟩
 have gu:=fw.size;(try (simp at gu));have zz:=And.intro (dN fw (b:=w2.heap.size) tS (by assumption)) <| And.intro (dN fw (b:=w.heap.size+1+1+1) tS (by assumption)) <| And.intro (dN fw (b:=w.heap.size+1+1) tS (by assumption)) <| And.intro (dN fw (b:=w.heap.size+1) tS (by assumption)) <| dN fw (b:=w.heap.size) tS (by assumption);(first|simp [go_sem,bX] at zz|simp [go_sem] at zz|skip);replace bX:=jb zz;clear zz
 have kI:Below w.heap.size w w4:=lI zB fw tS (fun k hk=>by have:=d1 k hk;omega)
 clear fw
 obtain ⟨k0,k1,k2,k3⟩:=jW (a:=w.heap.size) (b:=w2.heap.size)
 go_wp2_with fail;refine au w zB fun bb=>?_;refine (D.out _ _ _ (zO s1 o1) (zO s2 o2)).mono ?_;rintro _ w3 ⟨⟨y1,y2,rfl,aO,aQ,dH,dF⟩,aC⟩;obtain ⟨iG,bM,zz⟩:=dV bb aC (b:=w.heap.size);(try simp at bM);(first|simp [go_sem,bX,k0,k1,k2,k3] at zz|simp [go_sem] at zz|skip);replace bX:=dx zz;clear zz aC bb
 obtain ⟨⟨aD,aF⟩,dQ,dR⟩:=kH (w:=w) (w.heap.size+1+1+1+1) dH dF d1 d2;obtain ⟨ya,yp,rfl,_⟩:=aO.seg;obtain ⟨yb,yq,rfl,_⟩:=aQ.seg
 go_wp2
 refine rE Tryz.results191 rfl (az x.1 (.slice ya x.1.cells.length yp) (.slice yb x.1.words.length yq) tY) rfl (aj x.2.1 tY) ⟨⟨_,_,rfl,?_,?_,dQ,dR⟩,by exact zB⟩
 ·exact zP aO aO aD
 ·exact zP aQ aQ aF
end
end Go.Proofs.YtffhjmepfojhnaaGreat
