/-
  Stopping, of the reference model; lists lie in memory and hold at most 2 ^ 40 elements.
-/
import Derived.Test.YtffhjmepfojhnaaGreatR08
import Derived.Test.YtffhjmepfojhnaaGreatR24
import Derived.Test.YtffhjmepfojhnaaGreatR11
import Derived.Test.YtffhjmepfojhnaaGreatR13
import Derived.Test.YtffhjmepfojhnaaGreatR01
import Derived.BigRegion
import Derived.Test.YtffhjmepfojhnaaGreatR20
set_option maxRecDepth 100000
set_option maxHeartbeats 4000000
set_option linter.unusedSimpArgs false
set_option linter.unusedVariables false
namespace Go.Proofs.YtffhjmepfojhnaaGreat
section
open Go.RowKit
attribute [local simp] aC
attribute [local go_sem ↓] aB aL aM fe au
attribute [local go_sem] eB
end
section
open Go.RowKit
attribute [local simp] aC
attribute [local go_sem ↓] aB aL aM fe au
attribute [local go_sem] eB
end
section
open Go.RowKit
theorem xL {x:Wo} (h:bJ x=true):0≤x.now∧x.now≤20000:=by
 simp [bJ,fV,dm] at h
 omega
end
section
open Go.RowKit
attribute [local simp] aC
attribute [local go_sem ↓] aB aU aL bB aM bC aG aN au aF
theorem o7 (c:Ch) (v:Int) (a b:Option Addr) (p q:Nat) (w:World) :
    Calls Tryz.prog 124 #[.agg (af c (.slice a c.cells.length p) (.slice b c.words.length q)),.int .i64 v] w fun r w'=>r=.returned (.bool (kF c v))∧Below w.heap.size w w':=ru c v a b p q w
theorem Kt (c:Ch) (h:Ha) (v1 v2:Value) (lo:Nat) (w:World) (h1:ag w lo v1 c.cells) (h2:ai w lo v2 c.words) (hm0:1≤h.mine) (hm1:h.mine≤c.words.length) (uO:c.words.length≤80) (hs:eF c h.mine=0) :
    cu 212 c h v1 v2 lo w (jf c h):=by
  obtain ⟨j,hj⟩:∃ j:Nat,h.mine=(j:Int)+1:=⟨(h.mine - 1).toNat,by omega⟩
  have hjl:j<c.words.length:=by omega
  have hw0:eF c h.mine=c.words.getD j 0:=by simp [eF,hj]
  have e:jf c h=(c,h,false):=by simp [jf,hs]
  rw [e]
  rw [hw0] at hs
  have b1:=jF h1
  have b2:=jF h2
  have m1:=mG b1
  have m2:=mG b2
  have m10:=m1 (w.heap.size) tO
  have m20:=m2 (w.heap.size) tO
  have m11:=m1 (w.heap.size+1) tO
  have m21:=m2 (w.heap.size+1) tO
  have m12:=m1 (w.heap.size+1+1) tO
  have m22:=m2 (w.heap.size+1+1) tO
  have m13:=m1 (w.heap.size+1+1+1) tO
  have m23:=m2 (w.heap.size+1+1+1) tO
  have o1:=h1
  have o2:=h2
  obtain ⟨a1,q1,e1,_⟩:=h1.seg
  obtain ⟨a2,q2,e2,_⟩:=h2.seg
  subst e1 e2
  clear h1 h2 e
  go_enter Tryz.func212,Tryz.ntmps212
  obtain ⟨g,cap,hv,hlo,hlt,hcell,_⟩:=o2.open1 hjl
  simp at hv
  obtain ⟨rfl,rfl⟩:=hv
  generalize c.words.getD j 0=y at *
  have hj0:(0:Int)≤(j:Int):=by omega
  have hj1:(j:Int)<(c.words.length:Int):=by omega
  have hg0:g≠w.heap.size:=by omega
  have hg1:g≠w.heap.size+1:=by omega
  have hg2:g≠w.heap.size+1+1:=by omega
  have hg3:g≠w.heap.size+1+1+1:=by omega
  have hg4:g<w.heap.size+1:=by omega
  have hg5:g<w.heap.size+1+1:=by omega
  have TG:g<w.heap.size+1+1+1:=by omega
  go_wp2_with fail
  go_region
  all_goals go_wp2
  all_goals (refine rE Tryz.results212 rfl (az c (.slice a1 c.cells.length q1) (.slice (some ⟨g,0,none⟩) c.words.length q2) tY) rfl (aj h tY) ⟨⟨_,_,rfl,?_,?_,ak _ _,ak _ _⟩,dx zB⟩)
  all_goals first|(show ag _ _ _ c.cells;exact zO o1 o1)|skip
  all_goals first|(show ai _ _ _ c.words;exact zO o2 o2)|skip
theorem Ku (c:Ch) (h:Ha) (v1 v2:Value) (lo:Nat) (w:World) (h1:ag w lo v1 c.cells) (h2:ai w lo v2 c.words) (hm0:1≤h.mine) (hm1:h.mine≤c.words.length) (uO:c.words.length≤80) (hs:(eF c h.mine == 0)=false) (hs2:(eF c h.mine == 2)=false) (hs3:(h.code == 1)=true) :
    cu 212 c h v1 v2 lo w (jf c h):=by
  obtain ⟨j,hj⟩:∃ j:Nat,h.mine=(j:Int)+1:=⟨(h.mine - 1).toNat,by omega⟩
  have hjl:j<c.words.length:=by omega
  have hw0:eF c h.mine=c.words.getD j 0:=by simp [eF,hj]
  have e:jf c h=done c (aP 1 0):=by simp at hs hs2 hs3;simp [jf,hs,hs2,hs3]
  rw [e]
  rw [hw0] at hs hs2
  have D:=Lib.hid fun W=>bE c (aP 1 0) v1 v2 lo W
  generalize done c (aP 1 0)=x at *
  have b1:=jF h1
  have b2:=jF h2
  have m1:=mG b1
  have m2:=mG b2
  have m10:=m1 (w.heap.size) tO
  have m20:=m2 (w.heap.size) tO
  have m11:=m1 (w.heap.size+1) tO
  have m21:=m2 (w.heap.size+1) tO
  have m12:=m1 (w.heap.size+1+1) tO
  have m22:=m2 (w.heap.size+1+1) tO
  have m13:=m1 (w.heap.size+1+1+1) tO
  have m23:=m2 (w.heap.size+1+1+1) tO
  have o1:=h1
  have o2:=h2
  obtain ⟨a1,q1,e1,_⟩:=h1.seg
  obtain ⟨a2,q2,e2,_⟩:=h2.seg
  subst e1 e2
  clear h1 h2 e
  go_enter Tryz.func212,Tryz.ntmps212
  obtain ⟨g,cap,hv,hlo,hlt,hcell,_⟩:=o2.open1 hjl
  simp at hv
  obtain ⟨rfl,rfl⟩:=hv
  generalize c.words.getD j 0=y at *
  have hj0:(0:Int)≤(j:Int):=by omega
  have hj1:(j:Int)<(c.words.length:Int):=by omega
  have hg0:g≠w.heap.size:=by omega
  have hg1:g≠w.heap.size+1:=by omega
  have hg2:g≠w.heap.size+1+1:=by omega
  have hg3:g≠w.heap.size+1+1+1:=by omega
  have hg4:g<w.heap.size+1:=by omega
  have hg5:g<w.heap.size+1+1:=by omega
  have TG:g<w.heap.size+1+1+1:=by omega
  go_wp2_with fail;refine ax w zB fun bb=>?_;refine (fO _ _ _).mono ?_;rintro _ w4 ⟨rfl,dY⟩;obtain ⟨jG,iw,zz⟩:=dZ bb dY (b:=w.heap.size);(try simp at iw);(try simp [go_sem] at zz);replace bX:=dF zz;clear zz dY bb
  have s1:=own_below o1 jG
  have s2:=own_below o2 jG
  go_wp2_with fail;refine ax w zB fun bb=>?_;refine (D.out _ (zO s1 o1) (zO s2 o2)).mono ?_;rintro _ w3 ⟨⟨y1,y2,rfl,aV,aX,dL,dI⟩,aO⟩;obtain ⟨ig,df,zz⟩:=dZ bb aO (b:=w.heap.size);(try simp at df);(first|simp [go_sem,bX] at zz|simp [go_sem] at zz|skip);replace bX:=dF zz;clear zz aO bb
  obtain ⟨⟨aI,aJ⟩,dP,dQ⟩:=sO (w:=w) (w.heap.size+1+1+1+1) dL dI b1 b2;obtain ⟨ya,yp,rfl,_⟩:=aV.seg;obtain ⟨yb,yq,rfl,_⟩:=aX.seg
  go_wp2
  refine rE Tryz.results212 rfl (az x.1 (.slice ya x.1.cells.length yp) (.slice yb x.1.words.length yq) tY) rfl (aj x.2.1 tY) ⟨⟨_,_,rfl,?_,?_,dP,dQ⟩,dx zB⟩
  · exact zP aV aV aI
  · exact zP aX aX aJ
theorem xM (c:Ch) (h:Ha) (v1 v2:Value) (lo:Nat) (w:World) (h1:ag w lo v1 c.cells) (h2:ai w lo v2 c.words) (hm0:1≤h.mine) (hm1:h.mine≤c.words.length) (uO:c.words.length≤80) (hs:(eF c h.mine == 0)=false) :
    (∀ (hs2:(eF c h.mine == 2)=true),Calls Tryz.prog 212 #[.agg (af c v1 v2),.agg (aa h)] w fun r w'=>cz w w' lo v1 v2 (jf c h) r) ∧
    (∀ (hs2:(eF c h.mine == 2)=false) (hs3:(h.code == 1)=false),Calls Tryz.prog 212 #[.agg (af c v1 v2),.agg (aa h)] w fun r w'=>cz w w' lo v1 v2 (jf c h) r):=by
  constructor
  case' left =>
    intro hs2
    have mA:Hid (0=0):=rfl
  case' right =>
    intro hs2 hs3
    have mB:Hid (0=0):=rfl
  all_goals
    obtain ⟨j,hj⟩:∃ j:Nat,h.mine=(j:Int)+1:=⟨(h.mine - 1).toNat,by omega⟩
    have hjl:j<c.words.length:=by omega
    have hw0:eF c h.mine=c.words.getD j 0:=by simp [eF,hj]
    first
    | (replace mA:=mA;have e:jf c h=done c ({ h with pos:=25,mine:=(j:Int)+1 }):=by rw [← hj];simp at hs hs2;simp [jf,hs2])
    | (replace mB:=mB;have e:jf c h=done c ({ h with pos:=24,mine:=(j:Int)+1 }):=by rw [← hj];simp at hs hs2 hs3;simp [jf,hs,hs2,hs3])
    rw [e]
    rw [hw0] at hs hs2
    first
    | (replace mA:=mA
       have D:=Lib.hid fun W=>bE c ({ h with pos:=25,mine:=(j:Int)+1 }) v1 v2 lo W
       generalize done c ({ h with pos:=25,mine:=(j:Int)+1 })=x at *)
    | (replace mB:=mB
       have D:=Lib.hid fun W=>bE c ({ h with pos:=24,mine:=(j:Int)+1 }) v1 v2 lo W
       generalize done c ({ h with pos:=24,mine:=(j:Int)+1 })=x at *)
    have b1:=jF h1
    have b2:=jF h2
    have m1:=mG b1
    have m2:=mG b2
    have m10:=m1 (w.heap.size) tO
    have m20:=m2 (w.heap.size) tO
    have m11:=m1 (w.heap.size+1) tO
    have m21:=m2 (w.heap.size+1) tO
    have m12:=m1 (w.heap.size+1+1) tO
    have m22:=m2 (w.heap.size+1+1) tO
    have m13:=m1 (w.heap.size+1+1+1) tO
    have m23:=m2 (w.heap.size+1+1+1) tO
    have o1:=h1
    have o2:=h2
    obtain ⟨a1,q1,e1,_⟩:=h1.seg
    obtain ⟨a2,q2,e2,_⟩:=h2.seg
    subst e1 e2
    clear h1 h2 e
    go_enter Tryz.func212,Tryz.ntmps212
    obtain ⟨g,cap,hv,hlo,hlt,hcell,_⟩:=o2.open1 hjl
    simp at hv
    obtain ⟨rfl,rfl⟩:=hv
    generalize c.words.getD j 0=y at *
    have hj0:(0:Int)≤(j:Int):=by omega
    have hj1:(j:Int)<(c.words.length:Int):=by omega
    have hg0:g≠w.heap.size:=by omega
    have hg1:g≠w.heap.size+1:=by omega
    have hg2:g≠w.heap.size+1+1:=by omega
    have hg3:g≠w.heap.size+1+1+1:=by omega
    have hg4:g<w.heap.size+1:=by omega
    have hg5:g<w.heap.size+1+1:=by omega
    have TG:g<w.heap.size+1+1+1:=by omega
    go_wp2_with fail;refine ax w zB fun bb=>?_;refine (D.out _ (zO o1 o1) (zO o2 o2)).mono ?_;rintro _ w3 ⟨⟨y1,y2,rfl,aV,aX,dL,dI⟩,aO⟩;obtain ⟨ig,df,zz⟩:=dZ bb aO (b:=w.heap.size);(try simp at df);(try simp [go_sem] at zz);replace bX:=dF zz;clear zz aO bb
    obtain ⟨⟨aI,aJ⟩,dP,dQ⟩:=sO (w:=w) (w.heap.size+1+1+1+1) dL dI b1 b2;obtain ⟨ya,yp,rfl,_⟩:=aV.seg;obtain ⟨yb,yq,rfl,_⟩:=aX.seg
    go_wp2
    refine rE Tryz.results212 rfl (az x.1 (.slice ya x.1.cells.length yp) (.slice yb x.1.words.length yq) tY) rfl (aj x.2.1 tY) ⟨⟨_,_,rfl,?_,?_,dP,dQ⟩,dx zB⟩
    · exact zP aV aV aI
    · exact zP aX aX aJ
theorem Kv (c:Ch) (h:Ha) (v1 v2:Value) (lo:Nat) (w:World) (h1:ag w lo v1 c.cells) (h2:ai w lo v2 c.words) (hm0:1≤h.mine) (hm1:h.mine≤c.words.length) (uO:c.words.length≤80) (hs:(eF c h.mine == 0)=false) (hs2:(eF c h.mine == 2)=true) :
    Calls Tryz.prog 212 #[.agg (af c v1 v2),.agg (aa h)] w fun r w'=>cz w w' lo v1 v2 (jf c h) r:=(xM c h v1 v2 lo w h1 h2 hm0 hm1 uO hs).1 hs2
theorem Kw (c:Ch) (h:Ha) (v1 v2:Value) (lo:Nat) (w:World) (h1:ag w lo v1 c.cells) (h2:ai w lo v2 c.words) (hm0:1≤h.mine) (hm1:h.mine≤c.words.length) (uO:c.words.length≤80) (hs:(eF c h.mine == 0)=false) (hs2:(eF c h.mine == 2)=false) (hs3:(h.code == 1)=false) :
    Calls Tryz.prog 212 #[.agg (af c v1 v2),.agg (aa h)] w fun r w'=>cz w w' lo v1 v2 (jf c h) r:=(xM c h v1 v2 lo w h1 h2 hm0 hm1 uO hs).2 hs2 hs3
theorem Et (c:Ch) (h:Ha) (v1 v2:Value) (lo:Nat) (w:World) (h1:ag w lo v1 c.cells) (h2:ai w lo v2 c.words) (hm0:1≤h.mine) (hm1:h.mine≤c.words.length) (uO:c.words.length≤80) :
    cu 212 c h v1 v2 lo w (jf c h):=by
  by_cases s0:eF c h.mine=0
  · exact Kt c h v1 v2 lo w h1 h2 hm0 hm1 uO s0
  · by_cases s2:eF c h.mine=2
    · exact Kv c h v1 v2 lo w h1 h2 hm0 hm1 uO (by simpa using s0) (by simpa using s2)
    · by_cases s3:h.code=1
      · exact Ku c h v1 v2 lo w h1 h2 hm0 hm1 uO (by simpa using s0) (by simpa using s2) (by simpa using s3)
      · exact Kw c h v1 v2 lo w h1 h2 hm0 hm1 uO (by simpa using s0) (by simpa using s2) (by simpa using s3)
end
section
open Go.RowKit
attribute [local simp] aC
attribute [local go_sem ↓] aB aU aL bB aM bC aG aN au aF
theorem Hm (c:Ch) (h:Ha) (a b:Option Addr) (p q:Nat) (w:World) (h1:eY w w.heap.size a c.cells) (h2:eQ w w.heap.size b c.words) (hk:bf c h 23 25 0=false) :
    Calls Tryz.prog 192 #[.agg (af c (.slice a c.cells.length p) (.slice b c.words.length q)),.agg (aa h)] w fun r w'=>bV w w' (bU c h) r:=by
  have e:bU c h=nothing:=by simp [bU,hk]
  rw [e]
  have H1:=Lib.hid h1
  have H2:=Lib.hid h2
  have T:=Lib.hid fun W=>gH W w.heap.size (.slice none 0 0) (.slice none 0 0)
  generalize nothing=x at *
  clear h1 h2 e
  have d1:∀ j,(Value.slice none 0 0).ownBlock=some j→w.heap.size+1+1+1+1≤j:=fun j hj=>by cases hj
  have d2:=d1
  go_enter Tryz.func192,Tryz.ntmps192
  go_wp2_with fail;refine ax w zB fun bb=>?_;refine (d9 c h 23 25 0 a b p q _ (aT H1 bb) (aT H2 bb)).mono ?_;rintro _ w1 ⟨rfl,ah⟩;obtain ⟨aW,ay,zz⟩:=dZ bb ah (b:=w.heap.size);(try simp at ay);(try simp [go_sem] at zz);replace bX:=dF zz;clear zz ah bb
  rw [hk]
  go_wp2_with fail;refine ax w zB fun bb=>?_;refine (T.out _).mono ?_;rintro _ w2 ⟨⟨y1,y2,rfl,aV,aX,dL,dI⟩,hbw2⟩;obtain ⟨dE,bu,zz⟩:=dZ bb hbw2 (b:=w.heap.size);(try simp at bu);(first|simp [go_sem,bX] at zz|simp [go_sem] at zz|skip);replace bX:=dF zz;clear zz hbw2 bb
  obtain ⟨⟨aI,aJ⟩,dP,dQ⟩:=lL (w:=w) (w.heap.size+1+1+1+1) dL dI d1 d2;obtain ⟨ya,yp,rfl,_⟩:=aV.seg;obtain ⟨yb,yq,rfl,_⟩:=aX.seg
  go_wp2
  refine rE Tryz.results192 rfl (az x.1 (.slice ya x.1.cells.length yp) (.slice yb x.1.words.length yq) tY) rfl (aj x.2.1 tY) ⟨⟨_,_,rfl,?_,?_,dP,dQ⟩,by exact zB⟩
  · exact zP aV aV aI
  · exact zP aX aX aJ
theorem Ho (c:Ch) (h:Ha) (a b:Option Addr) (p q:Nat) (w:World) (h1:eY w w.heap.size a c.cells) (h2:eQ w w.heap.size b c.words) (hk:bf c h 23 25 0=true) (hh:kF c h.mine=false) :
    Calls Tryz.prog 192 #[.agg (af c (.slice a c.cells.length p) (.slice b c.words.length q)),.agg (aa h)] w fun r w'=>bV w w' (bU c h) r:=by
  have e:bU c h=nothing:=by simp [bU,hk,hh]
  rw [e]
  have H1:=Lib.hid h1
  have H2:=Lib.hid h2
  have T:=Lib.hid fun W=>gH W w.heap.size (.slice none 0 0) (.slice none 0 0)
  generalize nothing=x at *
  clear h1 h2 e
  have d1:∀ j,(Value.slice none 0 0).ownBlock=some j→w.heap.size+1+1+1+1≤j:=fun j hj=>by cases hj
  have d2:=d1
  go_enter Tryz.func192,Tryz.ntmps192
  go_wp2_with fail;refine ax w zB fun bb=>?_;refine (d9 c h 23 25 0 a b p q _ (aT H1 bb) (aT H2 bb)).mono ?_;rintro _ w1 ⟨rfl,ah⟩;obtain ⟨aW,ay,zz⟩:=dZ bb ah (b:=w.heap.size);(try simp at ay);(try simp [go_sem] at zz);replace bX:=dF zz;clear zz ah bb
  rw [hk]
  go_wp2_with fail;refine ax w zB fun bb=>?_;refine (o7 c h.mine _ _ _ _ _).mono ?_;rintro _ w0 ⟨rfl,hbw0⟩;obtain ⟨BO,zq,zz⟩:=dZ bb hbw0 (b:=w.heap.size);(try simp at zq);(first|simp [go_sem,bX] at zz|simp [go_sem] at zz|skip);replace bX:=dF zz;clear zz hbw0 bb
  rw [hh]
  go_wp2_with fail;refine ax w zB fun bb=>?_;refine (T.out _).mono ?_;rintro _ w2 ⟨⟨y1,y2,rfl,aV,aX,dL,dI⟩,hbw2⟩;obtain ⟨dE,bu,zz⟩:=dZ bb hbw2 (b:=w.heap.size);(try simp at bu);(first|simp [go_sem,bX] at zz|simp [go_sem] at zz|skip);replace bX:=dF zz;clear zz hbw2 bb
  obtain ⟨⟨aI,aJ⟩,dP,dQ⟩:=lL (w:=w) (w.heap.size+1+1+1+1) dL dI d1 d2;obtain ⟨ya,yp,rfl,_⟩:=aV.seg;obtain ⟨yb,yq,rfl,_⟩:=aX.seg
  go_wp2
  refine rE Tryz.results192 rfl (az x.1 (.slice ya x.1.cells.length yp) (.slice yb x.1.words.length yq) tY) rfl (aj x.2.1 tY) ⟨⟨_,_,rfl,?_,?_,dP,dQ⟩,by exact zB⟩
  · exact zP aV aV aI
  · exact zP aX aX aJ
theorem Hq (c:Ch) (h:Ha) (a b:Option Addr) (p q:Nat) (w:World) (h1:eY w w.heap.size a c.cells) (h2:eQ w w.heap.size b c.words) (hk:bf c h 23 25 0=true) (hh:kF c h.mine=true) (hp0:h.pos=24) (hc:(h.code == 1)=true) :
    Calls Tryz.prog 192 #[.agg (af c (.slice a c.cells.length p) (.slice b c.words.length q)),.agg (aa h)] w fun r w'=>bV w w' (bU c h) r:=by
  have e:bU c h=nothing:=by simp at hc;simp [bU,hk,hh,hp0,hc]
  rw [e]
  have H1:=Lib.hid h1
  have H2:=Lib.hid h2
  have T:=Lib.hid fun W=>gH W w.heap.size (.slice none 0 0) (.slice none 0 0)
  generalize nothing=x at *
  clear h1 h2 e
  have d1:∀ j,(Value.slice none 0 0).ownBlock=some j→w.heap.size+1+1+1+1≤j:=fun j hj=>by cases hj
  have d2:=d1
  go_enter Tryz.func192,Tryz.ntmps192
  go_wp2_with fail;refine ax w zB fun bb=>?_;refine (d9 c h 23 25 0 a b p q _ (aT H1 bb) (aT H2 bb)).mono ?_;rintro _ w1 ⟨rfl,ah⟩;obtain ⟨aW,ay,zz⟩:=dZ bb ah (b:=w.heap.size);(try simp at ay);(try simp [go_sem] at zz);replace bX:=dF zz;clear zz ah bb
  rw [hk]
  go_wp2_with fail;refine ax w zB fun bb=>?_;refine (o7 c h.mine _ _ _ _ _).mono ?_;rintro _ w0 ⟨rfl,hbw0⟩;obtain ⟨BO,zq,zz⟩:=dZ bb hbw0 (b:=w.heap.size);(try simp at zq);(first|simp [go_sem,bX] at zz|simp [go_sem] at zz|skip);replace bX:=dF zz;clear zz hbw0 bb
  rw [hh]
  go_wp2_with fail;refine ax w zB fun bb=>?_;refine (T.out _).mono ?_;rintro _ w2 ⟨⟨y1,y2,rfl,aV,aX,dL,dI⟩,hbw2⟩;obtain ⟨dE,bu,zz⟩:=dZ bb hbw2 (b:=w.heap.size);(try simp at bu);(first|simp [go_sem,bX] at zz|simp [go_sem] at zz|skip);replace bX:=dF zz;clear zz hbw2 bb
  obtain ⟨⟨aI,aJ⟩,dP,dQ⟩:=lL (w:=w) (w.heap.size+1+1+1+1) dL dI d1 d2;obtain ⟨ya,yp,rfl,_⟩:=aV.seg;obtain ⟨yb,yq,rfl,_⟩:=aX.seg
  go_wp2
  refine rE Tryz.results192 rfl (az x.1 (.slice ya x.1.cells.length yp) (.slice yb x.1.words.length yq) tY) rfl (aj x.2.1 tY) ⟨⟨_,_,rfl,?_,?_,dP,dQ⟩,by exact zB⟩
  · exact zP aV aV aI
  · exact zP aX aX aJ
theorem Ky (c:Ch) (h:Ha) (a b:Option Addr) (p q:Nat) (w:World) (h1:eY w w.heap.size a c.cells) (z1:a=none→p=0) (h2:eQ w w.heap.size b c.words) (z2:b=none→q=0) (hk:bf c h 23 25 0=true) (hh:kF c h.mine=true) (hp0:h.pos=23) :
    Calls Tryz.prog 192 #[.agg (af c (.slice a c.cells.length p) (.slice b c.words.length q)),.agg (aa h)] w fun r w'=>bV w w' (bU c h) r:=by
  obtain ⟨k1,k2,_,_⟩:=bQ hk
  obtain ⟨n1,n2⟩:=dU k1
  have m1:c.cells.length≤1099511627776:=by omega
  have m2:c.words.length≤1099511627776:=by omega
  have H1:=Lib.hid h1
  have H2:=Lib.hid h2
  have Z1:=Lib.hid z1
  have Z2:=Lib.hid z2
  have hmm:=nY.1 hh
  have e:bU c h=jf c h:=by simp [bU,hk,hh,hp0]
  rw [e]
  have D:=Lib.hid fun v1 v2 W x1 x2=>Et c h v1 v2 w.heap.size W x1 x2 hmm.1 hmm.2 n2
  generalize jf c h=x at *
  clear h1 h2 z1 z2 e k1 k2 n1 n2 hmm
  go_enter Tryz.func192,Tryz.ntmps192
  go_wp2_with fail;refine ax w zB fun bb=>?_;refine (d9 c h 23 25 0 a b p q _ (aT H1 bb) (aT H2 bb)).mono ?_;rintro _ w1 ⟨rfl,ah⟩;obtain ⟨aW,ay,zz⟩:=dZ bb ah (b:=w.heap.size);(try simp at ay);(try simp [go_sem] at zz);replace bX:=dF zz;clear zz ah bb
  rw [hk]
  go_wp2_with fail;refine ax w zB fun bb=>?_;refine (o7 c h.mine _ _ _ _ _).mono ?_;rintro _ w0 ⟨rfl,hbw0⟩;obtain ⟨BO,zq,zz⟩:=dZ bb hbw0 (b:=w.heap.size);(try simp at zq);(first|simp [go_sem,bX] at zz|simp [go_sem] at zz|skip);replace bX:=dF zz;clear zz hbw0 bb
  rw [hh]
  go_wp2_with fail;refine ax w zB fun bb=>?_;refine (dA c a b p q _ (aT H1 bb) Z1.out (aT H2 bb) Z2.out m1 m2).mono ?_;rintro _ w2 ⟨⟨v1,v2,rfl,o1,o2⟩,hbw2⟩;obtain ⟨dE,bu,zz⟩:=dZ bb hbw2 (b:=w.heap.size);(try simp at bu);(first|simp [go_sem,bX] at zz|simp [go_sem] at zz|skip);replace bX:=dF zz;clear zz hbw2 bb
  have d1:=jd o1 (w.heap.size+1+1+1+1)
  have d2:=jd o2 (w.heap.size+1+1+1+1)
  have p1:=av (lo':=w.heap.size) o1 tO
  have p2:=av (lo':=w.heap.size) o2 tO
  obtain ⟨a1,q1,rfl,_⟩:=o1.seg
  obtain ⟨a2,q2,rfl,_⟩:=o2.seg
  have m3:∀ j,j<w.heap.size+1+1+1+1→some j≠(Value.slice a1 c.cells.length q1).ownBlock:=fun j hj e=>by have:=d1 _ e.symm;omega
  have m4:∀ j,j<w.heap.size+1+1+1+1→some j≠(Value.slice a2 c.words.length q2).ownBlock:=fun j hj e=>by have:=d2 _ e.symm;omega
  have m10:=m3 (w.heap.size) tO
  have m20:=m4 (w.heap.size) tO
  have m11:=m3 (w.heap.size+1) tO
  have m21:=m4 (w.heap.size+1) tO
  have m12:=m3 (w.heap.size+1+1) tO
  have m22:=m4 (w.heap.size+1+1) tO
  have m13:=m3 (w.heap.size+1+1+1) tO
  have m23:=m4 (w.heap.size+1+1+1) tO
  go_wp2_with fail
  refine (D.out _ _ _ (zO p1 o1) (zO p2 o2)).mono ?_
  rintro _ w3 ⟨⟨y1,y2,rfl,aV,aX,dL,dI⟩,hO⟩
  have hB3:Below w.heap.size w w3:=FU zB hO (fun j hj=>by have:=d1 j hj;omega) (fun j hj=>by have:=d2 j hj;omega)
  have df:=hO.2.2.2.1;(try (simp at df));have zz:=vE hO (b:=w.heap.size);(first|simp [go_sem,bX] at zz|simp [go_sem] at zz|skip);replace bX:=dF zz;clear zz
  clear hO
  obtain ⟨⟨aI,aJ⟩,dP,dQ⟩:=lL (w:=w) (w.heap.size+1+1+1+1) dL dI d1 d2;obtain ⟨ya,yp,rfl,_⟩:=aV.seg;obtain ⟨yb,yq,rfl,_⟩:=aX.seg
  go_wp2
  refine rE Tryz.results192 rfl (az x.1 (.slice ya x.1.cells.length yp) (.slice yb x.1.words.length yq) tY) rfl (aj x.2.1 tY) ⟨⟨_,_,rfl,?_,?_,dP,dQ⟩,by exact zB⟩
  · exact zP aV aV aI
  · exact zP aX aX aJ
theorem uP (c:Ch) (h:Ha) (a b:Option Addr) (p q:Nat) (w:World) (h1:eY w w.heap.size a c.cells) (z1:a=none→p=0) (h2:eQ w w.heap.size b c.words) (z2:b=none→q=0) (hk:bf c h 23 25 0=true) (hh:kF c h.mine=true) (hp0:h.pos=25) :
    (∀ (hc:(h.code == 1)=true),Calls Tryz.prog 192 #[.agg (af c (.slice a c.cells.length p) (.slice b c.words.length q)),.agg (aa h)] w fun r w'=>bV w w' (bU c h) r) ∧
    (∀ (hc:(h.code == 1)=false),Calls Tryz.prog 192 #[.agg (af c (.slice a c.cells.length p) (.slice b c.words.length q)),.agg (aa h)] w fun r w'=>bV w w' (bU c h) r):=by
  constructor
  case' left =>
    intro hc
    have mA:Hid (0=0):=rfl
  case' right =>
    intro hc
    have mB:Hid (0=0):=rfl
  all_goals
    obtain ⟨k1,k2,_,_⟩:=bQ hk
    obtain ⟨n1,n2⟩:=dU k1
    have m1:c.cells.length≤1099511627776:=by omega
    have m2:c.words.length≤1099511627776:=by omega
    have H1:=Lib.hid h1
    have H2:=Lib.hid h2
    have Z1:=Lib.hid z1
    have Z2:=Lib.hid z2
    obtain ⟨c1,c2⟩:=fM k2
    obtain ⟨i,hci⟩:∃ i:Nat,h.cell=(i:Int):=⟨h.cell.toNat,by omega⟩
    have hi:i<c.cells.length:=by omega
    first
    | (replace mA:=mA;have e:bU c h=done (bP c i 9) (aP 3 0):=by simp at hc;simp [bU,hk,hh,hp0,hci,wZ,hc])
    | (replace mB:=mB;have e:bU c h=done (bP c i 10) (aP 3 0):=by simp at hc;simp [bU,hk,hh,hp0,hci,wZ,hc])
    rw [e]
    first
    | (replace mA:=mA
       have ST:=Lib.hid fun v1 v2 W=>jq c i 9 v1 v2 w.heap.size W
       have D:=fun v1 v2 W=>bE (bP c i 9) (aP 3 0) v1 v2 w.heap.size W)
    | (replace mB:=mB
       have ST:=Lib.hid fun v1 v2 W=>jq c i 10 v1 v2 w.heap.size W
       have D:=fun v1 v2 W=>bE (bP c i 10) (aP 3 0) v1 v2 w.heap.size W)
    simp only [ko,j6] at D
    first
    | (replace mA:=mA;generalize done (bP c i 9) (aP 3 0)=x at *)
    | (replace mB:=mB;generalize done (bP c i 10) (aP 3 0)=x at *)
    replace D:=Lib.hid D
    clear h1 h2 z1 z2 e k1 k2 n1 n2 c1 c2
    go_enter Tryz.func192,Tryz.ntmps192
    go_wp2_with fail;refine ax w zB fun bb=>?_;refine (d9 c h 23 25 0 a b p q _ (aT H1 bb) (aT H2 bb)).mono ?_;rintro _ w1 ⟨rfl,ah⟩;obtain ⟨aW,ay,zz⟩:=dZ bb ah (b:=w.heap.size);(try simp at ay);(try simp [go_sem] at zz);replace bX:=dF zz;clear zz ah bb
    rw [hk]
    go_wp2_with fail;refine ax w zB fun bb=>?_;refine (o7 c h.mine _ _ _ _ _).mono ?_;rintro _ w0 ⟨rfl,hbw0⟩;obtain ⟨BO,zq,zz⟩:=dZ bb hbw0 (b:=w.heap.size);(try simp at zq);(first|simp [go_sem,bX] at zz|simp [go_sem] at zz|skip);replace bX:=dF zz;clear zz hbw0 bb
    rw [hh]
    go_wp2_with fail;refine ax w zB fun bb=>?_;refine (dA c a b p q _ (aT H1 bb) Z1.out (aT H2 bb) Z2.out m1 m2).mono ?_;rintro _ w2 ⟨⟨v1,v2,rfl,o1,o2⟩,hbw2⟩;obtain ⟨dE,bu,zz⟩:=dZ bb hbw2 (b:=w.heap.size);(try simp at bu);(first|simp [go_sem,bX] at zz|simp [go_sem] at zz|skip);replace bX:=dF zz;clear zz hbw2 bb
    have d1:=jd o1 (w.heap.size+1+1+1+1)
    have d2:=jd o2 (w.heap.size+1+1+1+1)
    have p1:=av (lo':=w.heap.size) o1 tO
    have p2:=av (lo':=w.heap.size) o2 tO
    obtain ⟨a1,q1,rfl,_⟩:=o1.seg
    obtain ⟨a2,q2,rfl,_⟩:=o2.seg
    have nw:∀ j,(j<w.heap.size+1+1+1+1∨w2.heap.size≤j)→some j≠(Value.slice a1 c.cells.length q1).ownBlock:=fun j hj e=>by have:=d1 _ e.symm;have:=(o1.lt _ e.symm).2;omega
    have Oc:=nw (w.heap.size) tO
    have M5:=nw (w.heap.size+1) tO
    have M6:=nw (w.heap.size+1+1) tO
    have NG:=nw (w.heap.size+1+1+1) tO
    have Pf:=nw w2.heap.size tO
    go_wp2_with fail
    refine (ST.out _ _ _ (zO p1 o1) (zO p2 o2) hi).mono ?_
    rintro _ w4 ⟨rfl,s1,s2,fJ⟩
    have iw:=fJ.size;(try (simp at iw));have zz:=And.intro (dB fJ (b:=w2.heap.size) tS (by assumption)) <| And.intro (dB fJ (b:=w.heap.size+1+1+1) tS (by assumption)) <| And.intro (dB fJ (b:=w.heap.size+1+1) tS (by assumption)) <| And.intro (dB fJ (b:=w.heap.size+1) tS (by assumption)) <| dB fJ (b:=w.heap.size) tS (by assumption);(first|simp [go_sem,bX] at zz|simp [go_sem] at zz|skip);replace bX:=jL zz;clear zz
    have jG:Below w.heap.size w w4:=iE zB fJ tS (fun k hk=>by have:=d1 k hk;omega)
    clear fJ
    go_wp2_with fail;refine ax w zB fun bb=>?_;refine ax w4 zB fun bk=>?_;refine (fO _ _ _).mono ?_;rintro _ w5 ⟨rfl,dD⟩;obtain ⟨oM,iL,zz⟩:=dZ bb dD (b:=w.heap.size);(try simp at iL);(first|simp [go_sem,bX] at zz|simp [go_sem] at zz|skip);replace bX:=dF zz;clear zz;have jH:=bT bk dD;clear dD bb bk
    have r1:=own_below s1 jH
    have r2:=own_below s2 jH
    go_wp2_with fail;refine ax w zB fun bb=>?_;refine (D.out _ _ _ (zO r1 o1) (zO r2 o2)).mono ?_;rintro _ w3 ⟨⟨y1,y2,rfl,aV,aX,dL,dI⟩,aO⟩;obtain ⟨ig,df,zz⟩:=dZ bb aO (b:=w.heap.size);(try simp at df);(first|simp [go_sem,bX] at zz|simp [go_sem] at zz|skip);replace bX:=dF zz;clear zz aO bb
    obtain ⟨⟨aI,aJ⟩,dP,dQ⟩:=lL (w:=w) (w.heap.size+1+1+1+1) dL dI d1 d2;obtain ⟨ya,yp,rfl,_⟩:=aV.seg;obtain ⟨yb,yq,rfl,_⟩:=aX.seg
    go_wp2
    refine rE Tryz.results192 rfl (az x.1 (.slice ya x.1.cells.length yp) (.slice yb x.1.words.length yq) tY) rfl (aj x.2.1 tY) ⟨⟨_,_,rfl,?_,?_,dP,dQ⟩,by exact zB⟩
    · exact zP aV aV aI
    · exact zP aX aX aJ
theorem Hr (c:Ch) (h:Ha) (a b:Option Addr) (p q:Nat) (w:World) (h1:eY w w.heap.size a c.cells) (z1:a=none→p=0) (h2:eQ w w.heap.size b c.words) (z2:b=none→q=0) (hk:bf c h 23 25 0=true) (hh:kF c h.mine=true) (hp0:h.pos=25) (hc:(h.code == 1)=true) :
    Calls Tryz.prog 192 #[.agg (af c (.slice a c.cells.length p) (.slice b c.words.length q)),.agg (aa h)] w fun r w'=>bV w w' (bU c h) r:=(uP c h a b p q w h1 z1 h2 z2 hk hh hp0).1 hc
theorem Ht (c:Ch) (h:Ha) (a b:Option Addr) (p q:Nat) (w:World) (h1:eY w w.heap.size a c.cells) (z1:a=none→p=0) (h2:eQ w w.heap.size b c.words) (z2:b=none→q=0) (hk:bf c h 23 25 0=true) (hh:kF c h.mine=true) (hp0:h.pos=25) (hc:(h.code == 1)=false) :
    Calls Tryz.prog 192 #[.agg (af c (.slice a c.cells.length p) (.slice b c.words.length q)),.agg (aa h)] w fun r w'=>bV w w' (bU c h) r:=(uP c h a b p q w h1 z1 h2 z2 hk hh hp0).2 hc
end
end Go.Proofs.YtffhjmepfojhnaaGreat
