/-
  Looking, among the reference model's steps of sending, on hands and channels that are kept whole; lists lie in memory and hold at most 2 ^ 40 elements.
-/
import Derived.Test.YtffhjmepfojhnaaGreatR13
import Derived.Test.YtffhjmepfojhnaaGreatR18
import Derived.Test.YtffhjmepfojhnaaGreatR19
import Derived.Test.YtffhjmepfojhnaaGreatR17
import Derived.Test.YtffhjmepfojhnaaGreatR16
import Derived.Test.YtffhjmepfojhnaaGreatR04
import Derived.Laws.EntriesVeiled
import Derived.BigRegion
import Derived.Deep.DeepCutAuto
set_option maxRecDepth 100000
set_option maxHeartbeats 8000000
set_option linter.unusedSimpArgs false
set_option linter.unusedVariables false
namespace Go.Proofs.YtffhjmepfojhnaaGreat
section
open Go.RowKit
attribute [local simp] aC
attribute [local go_sem ↓] aB aU aL bB aM bC aG aN au aF
theorem JZ (c:Ch) (h:Ha) (a b:Option Addr) (p q:Nat) (w:World) (h1:eY w w.heap.size a c.cells) (z1:a=none→p=0) (h2:eQ w w.heap.size b c.words) (z2:b=none→q=0) (hk:bf c h 1 8 1=true) (hp0:h.pos=3) (ht:(je c h).2=true) :
  Calls Tryz.prog 189 #[.agg (af c (.slice a c.cells.length p) (.slice b c.words.length q)),.agg (aa h)] w fun r w'=>bV w w' (aZ c h) r:=by
 have e:aZ c h=done c (je c h).1:=by simp [aZ,hk,hp0,Ab,ht]
 rw [e]
 obtain ⟨k1,k2,_,_⟩:=bQ hk
 obtain ⟨n1,n2⟩:=dU k1
 have m1:c.cells.length≤1099511627776:=by omega
 have m2:c.words.length≤1099511627776:=by omega
 have H1:=Lib.hid h1
 have H2:=Lib.hid h2
 have Z1:=Lib.hid z1
 have Z2:=Lib.hid z2
 obtain ⟨c1,c2⟩:=fM k2
 have K:=fun W x1=>tT c h a b p q W x1 c1 tO
 rw [ht] at K
 have D:=Lib.hid fun v1 v2 W=>bE c (je c h).1 v1 v2 w.heap.size W
 generalize done c (je c h).1=x at *
 generalize (je c h).1=y at *
 replace K:=Lib.hid K
 clear h1 h2 z1 z2 e k1 k2 n1 n2
 go_enter Tryz.func189,Tryz.ntmps189
 go_wp2_with fail;refine ax w zB fun bb=>?_;refine (d9 c h 1 8 1 a b p q _ (aT H1 bb) (aT H2 bb)).mono ?_;rintro _ w1 ⟨rfl,ah⟩;obtain ⟨aW,ay,zz⟩:=dZ bb ah (b:=w.heap.size);(try simp at ay);(try simp [go_sem] at zz);replace bX:=dF zz;clear zz ah bb
 rw [hk]
 go_wp2_with fail;refine ax w zB fun bb=>?_;refine (dA c a b p q _ (aT H1 bb) Z1.out (aT H2 bb) Z2.out m1 m2).mono ?_;rintro _ w2 ⟨⟨v1,v2,rfl,o1,o2⟩,hbw2⟩;obtain ⟨dE,bu,zz⟩:=dZ bb hbw2 (b:=w.heap.size);(try simp at bu);(first|simp [go_sem,bX] at zz|simp [go_sem] at zz|skip);replace bX:=dF zz;clear zz hbw2 bb
 obtain ⟨k0,k1,k2,k3⟩:=kZ (a:=w.heap.size) (b:=w2.heap.size)
 have d1:=jd o1 (w.heap.size+1+1+1+1)
 have d2:=jd o2 (w.heap.size+1+1+1+1)
 have p1:=av (lo':=w.heap.size) o1 tO
 have p2:=av (lo':=w.heap.size) o2 tO
 obtain ⟨a1,q1,rfl,_⟩:=o1.seg
 obtain ⟨a2,q2,rfl,_⟩:=o2.seg
 go_wp2_with fail;refine ax w zB fun bb=>?_;refine ax w2 zB fun bk=>?_;refine (K.out _ (aT H1 bb)).mono ?_;rintro _ w3 ⟨rfl,aO⟩;have ig:=bT bb aO;have df:=aO.size;(try simp at df);have zz:=And.intro (hQ aO (b:=w2.heap.size)) <| And.intro (hQ aO (b:=w.heap.size+1+1+1)) <| And.intro (hQ aO (b:=w.heap.size+1+1)) <| And.intro (hQ aO (b:=w.heap.size+1)) <| hQ aO (b:=w.heap.size);(first|simp [go_sem,bX,k0,k1,k2,k3] at zz|simp [go_sem] at zz|skip);replace bX:=jL zz;clear zz;have vG:=bT bk aO;clear aO bb bk
 have s1:=own_below p1 vG
 have s2:=own_below p2 vG
 go_wp2_with fail;refine ax w zB fun bb=>?_;refine (D.out _ _ _ (zO s1 o1) (zO s2 o2)).mono ?_;rintro _ w5 ⟨⟨y1,y2,rfl,aV,aX,dL,dI⟩,dD⟩;obtain ⟨oM,iL,zz⟩:=dZ bb dD (b:=w.heap.size);(try simp at iL);(first|simp [go_sem,bX,k0,k1,k2,k3] at zz|simp [go_sem] at zz|skip);replace bX:=dF zz;clear zz dD bb
 obtain ⟨⟨aI,aJ⟩,dP,dQ⟩:=lL (w:=w) (w.heap.size+1+1+1+1) dL dI d1 d2;obtain ⟨ya,yp,rfl,_⟩:=aV.seg;obtain ⟨yb,yq,rfl,_⟩:=aX.seg
 go_wp2
 refine rE Tryz.results189 rfl (az x.1 (.slice ya x.1.cells.length yp) (.slice yb x.1.words.length yq) tY) rfl (aj x.2.1 tY) ⟨⟨_,_,rfl,?_,?_,dP,dQ⟩,by exact zB⟩
 ·exact zP aV aV aI
 ·exact zP aX aX aJ
theorem Ka (c:Ch) (h:Ha) (a b:Option Addr) (p q:Nat) (w:World) (h1:eY w w.heap.size a c.cells) (z1:a=none→p=0) (h2:eQ w w.heap.size b c.words) (z2:b=none→q=0) (hk:bf c h 1 8 1=true) (hp0:h.pos=3) (ht:(je c h).2=false) :
  Calls Tryz.prog 189 #[.agg (af c (.slice a c.cells.length p) (.slice b c.words.length q)),.agg (aa h)] w fun r w'=>bV w w' (aZ c h) r:=by
 have e:aZ c h=nothing:=by simp [aZ,hk,hp0,Ab,ht]
 rw [e]
 obtain ⟨k1,k2,_,_⟩:=bQ hk
 obtain ⟨n1,n2⟩:=dU k1
 have m1:c.cells.length≤1099511627776:=by omega
 have m2:c.words.length≤1099511627776:=by omega
 have H1:=Lib.hid h1
 have H2:=Lib.hid h2
 have Z1:=Lib.hid z1
 have Z2:=Lib.hid z2
 obtain ⟨c1,c2⟩:=fM k2
 have K:=fun W x1=>tT c h a b p q W x1 c1 tO
 rw [ht] at K
 have D:=Lib.hid fun W=>gH W w.heap.size (.slice none 0 0) (.slice none 0 0)
 generalize nothing=x at *
 replace K:=Lib.hid K
 clear h1 h2 z1 z2 e k1 k2 n1 n2
 go_enter Tryz.func189,Tryz.ntmps189
 go_wp2_with fail;refine ax w zB fun bb=>?_;refine (d9 c h 1 8 1 a b p q _ (aT H1 bb) (aT H2 bb)).mono ?_;rintro _ w1 ⟨rfl,ah⟩;obtain ⟨aW,ay,zz⟩:=dZ bb ah (b:=w.heap.size);(try simp at ay);(try simp [go_sem] at zz);replace bX:=dF zz;clear zz ah bb
 rw [hk]
 go_wp2_with fail;refine ax w zB fun bb=>?_;refine (dA c a b p q _ (aT H1 bb) Z1.out (aT H2 bb) Z2.out m1 m2).mono ?_;rintro _ w2 ⟨⟨v1,v2,rfl,o1,o2⟩,hbw2⟩;obtain ⟨dE,bu,zz⟩:=dZ bb hbw2 (b:=w.heap.size);(try simp at bu);(first|simp [go_sem,bX] at zz|simp [go_sem] at zz|skip);replace bX:=dF zz;clear zz hbw2 bb
 obtain ⟨k0,k1,k2,k3⟩:=kZ (a:=w.heap.size) (b:=w2.heap.size)
 have d1:=jd o1 (w.heap.size+1+1+1+1)
 have d2:=jd o2 (w.heap.size+1+1+1+1)
 have p1:=av (lo':=w.heap.size) o1 tO
 have p2:=av (lo':=w.heap.size) o2 tO
 obtain ⟨a1,q1,rfl,_⟩:=o1.seg
 obtain ⟨a2,q2,rfl,_⟩:=o2.seg
 go_wp2_with fail;refine ax w zB fun bb=>?_;refine ax w2 zB fun bk=>?_;refine (K.out _ (aT H1 bb)).mono ?_;rintro _ w3 ⟨rfl,aO⟩;have ig:=bT bb aO;have df:=aO.size;(try simp at df);have zz:=And.intro (hQ aO (b:=w2.heap.size)) <| And.intro (hQ aO (b:=w.heap.size+1+1+1)) <| And.intro (hQ aO (b:=w.heap.size+1+1)) <| And.intro (hQ aO (b:=w.heap.size+1)) <| hQ aO (b:=w.heap.size);(first|simp [go_sem,bX,k0,k1,k2,k3] at zz|simp [go_sem] at zz|skip);replace bX:=jL zz;clear zz;have vG:=bT bk aO;clear aO bb bk
 clear d1 d2
 have d1:∀ j,(Value.slice none 0 0).ownBlock=some j→w.heap.size+1+1+1+1≤j:=fun j hj=>by cases hj
 have d2:=d1
 go_wp2_with fail;refine ax w zB fun bb=>?_;refine (D.out _).mono ?_;rintro _ w5 ⟨⟨y1,y2,rfl,aV,aX,dL,dI⟩,dD⟩;obtain ⟨oM,iL,zz⟩:=dZ bb dD (b:=w.heap.size);(try simp at iL);(first|simp [go_sem,bX,k0,k1,k2,k3] at zz|simp [go_sem] at zz|skip);replace bX:=dF zz;clear zz dD bb
 obtain ⟨⟨aI,aJ⟩,dP,dQ⟩:=lL (w:=w) (w.heap.size+1+1+1+1) dL dI d1 d2;obtain ⟨ya,yp,rfl,_⟩:=aV.seg;obtain ⟨yb,yq,rfl,_⟩:=aX.seg
 go_wp2
 refine rE Tryz.results189 rfl (az x.1 (.slice ya x.1.cells.length yp) (.slice yb x.1.words.length yq) tY) rfl (aj x.2.1 tY) ⟨⟨_,_,rfl,?_,?_,dP,dQ⟩,by exact zB⟩
 ·exact zP aV aV aI
 ·exact zP aX aX aJ
end
section
open Go.RowKit
attribute [local simp] aC
attribute [local go_sem ↓] aB aU aL bB aM bC aG aN au aF
theorem Kb (c:Ch) (h:Ha) (a b:Option Addr) (p q:Nat) (w:World) (h1:eY w w.heap.size a c.cells) (z1:a=none→p=0) (h2:eQ w w.heap.size b c.words) (z2:b=none→q=0) (hk:bf c h 9 15 2=true) (hp0:h.pos=12) :
  Calls Tryz.prog 190 #[.agg (af c (.slice a c.cells.length p) (.slice b c.words.length q)),.agg (aa h)] w fun r w'=>bV w w' (bg c h) r:=by
 obtain ⟨k1,k2,_,_⟩:=bQ hk
 obtain ⟨n1,n2⟩:=dU k1
 have m1:c.cells.length≤1099511627776:=by omega
 have m2:c.words.length≤1099511627776:=by omega
 have H1:=Lib.hid h1
 have H2:=Lib.hid h2
 have Z1:=Lib.hid z1
 have Z2:=Lib.hid z2
 obtain ⟨c1,c2⟩:=fM k2
 have e:bg c h=fG c h:=by simp [bg,hk,hp0]
 rw [e]
 have D:=Lib.hid fun v1 v2 W x1 x2 x3=>DV c h v1 v2 w.heap.size W x1 x2 x3 c1 tO
 generalize fG c h=x at *
 clear h1 h2 z1 z2 e k1 k2 n1 n2 c1 c2
 go_enter Tryz.func190,Tryz.ntmps190
 go_wp2_with fail;refine ax w zB fun bb=>?_;refine (d9 c h 9 15 2 a b p q _ (aT H1 bb) (aT H2 bb)).mono ?_;rintro _ w1 ⟨rfl,ah⟩;obtain ⟨aW,ay,zz⟩:=dZ bb ah (b:=w.heap.size);(try simp at ay);(try simp [go_sem] at zz);replace bX:=dF zz;clear zz ah bb
 rw [hk]
 go_wp2_with fail;refine ax w zB fun bb=>?_;refine (dA c a b p q _ (aT H1 bb) Z1.out (aT H2 bb) Z2.out m1 m2).mono ?_;rintro _ w2 ⟨⟨v1,v2,rfl,o1,o2⟩,hbw2⟩;obtain ⟨dE,bu,zz⟩:=dZ bb hbw2 (b:=w.heap.size);(try simp at bu);(first|simp [go_sem,bX] at zz|simp [go_sem] at zz|skip);replace bX:=dF zz;clear zz hbw2 bb
 have d1:=jd o1 (w.heap.size+1+1+1+1)
 have d2:=jd o2 (w.heap.size+1+1+1+1)
 have p1:=av (lo':=w.heap.size) o1 tO
 have p2:=av (lo':=w.heap.size) o2 tO
 obtain ⟨a1,q1,rfl,_⟩:=o1.seg
 obtain ⟨a2,q2,rfl,_⟩:=o2.seg
 have m3:∀ j,j<w.heap.size+1+1+1+1→some j≠(Value.slice a1 c.cells.length q1).ownBlock:=fun j hj e=>by have:=d1 _ e.symm;omega
 have m4:∀ j,j<w.heap.size+1+1+1+1→some j≠(Value.slice a2 c.words.length q2).ownBlock:=fun j hj e=>by have:=d2 _ e.symm;omega
 have m10:=m3 (w.heap.size) tO
 have m20:=m4 (w.heap.size) tO
 have m11:=m3 (w.heap.size+1) tO
 have m21:=m4 (w.heap.size+1) tO
 have m12:=m3 (w.heap.size+1+1) tO
 have m22:=m4 (w.heap.size+1+1) tO
 have m13:=m3 (w.heap.size+1+1+1) tO
 have m23:=m4 (w.heap.size+1+1+1) tO
 go_wp2_with fail
 refine (D.out _ _ _ (zO p1 o1) (zO p2 o2) (by simp;omega)).mono ?_
 rintro _ w3 ⟨⟨y1,y2,rfl,aV,aX,dL,dI⟩,hO⟩
 have hB3:Below w.heap.size w w3:=FU zB hO (fun j hj=>by have:=d1 j hj;omega) (fun j hj=>by have:=d2 j hj;omega)
 have df:=hO.2.2.2.1;(try (simp at df));have zz:=vE hO (b:=w.heap.size);(first|simp [go_sem,bX] at zz|simp [go_sem] at zz|skip);replace bX:=dF zz;clear zz
 clear hO
 obtain ⟨⟨aI,aJ⟩,dP,dQ⟩:=lL (w:=w) (w.heap.size+1+1+1+1) dL dI d1 d2;obtain ⟨ya,yp,rfl,_⟩:=aV.seg;obtain ⟨yb,yq,rfl,_⟩:=aX.seg
 go_wp2
 refine rE Tryz.results190 rfl (az x.1 (.slice ya x.1.cells.length yp) (.slice yb x.1.words.length yq) tY) rfl (aj x.2.1 tY) ⟨⟨_,_,rfl,?_,?_,dP,dQ⟩,by exact zB⟩
 ·exact zP aV aV aI
 ·exact zP aX aX aJ
theorem Bq {c:Ch} (e:aK c=true):0≤c.got∧c.got≤40:=by
 simp [aK,fq,dm] at e
 omega
theorem xJ {c:Ch} (e:aK c=true):0≤c.sent∧c.sent≤40:=by
 simp [aK,fq,dm] at e
 omega
theorem Kc {c:Ch} (e:aK c=true):0≤c.fin∧c.fin≤40:=by
 simp [aK,fq,dm] at e
 omega
theorem vL (c:Ch) (h:Ha) (a b:Option Addr) (p q:Nat) (w:World) (h1:eY w w.heap.size a c.cells) (z1:a=none→p=0) (h2:eQ w w.heap.size b c.words) (z2:b=none→q=0) :
  Calls Tryz.prog 190 #[.agg (af c (.slice a c.cells.length p) (.slice b c.words.length q)),.agg (aa h)] w fun r w'=>bV w w' (bg c h) r:=by
 cases hk:bf c h 9 15 2 with
 | false=>exact JN c h a b p q w h1 h2 hk
 | true =>
  obtain ⟨k1,_,k3,k4⟩:=bQ hk
  have hp:h.pos=9∨h.pos=10∨h.pos=11∨h.pos=12∨h.pos=13∨h.pos=14∨h.pos=15:=by omega
  rcases hp with hp|hp|hp|hp|hp|hp|hp
  ·by_cases hs:c.got=40
   ·exact JQ c h a b p q w h1 z1 h2 z2 hk hp hs
   ·exact JP c h a b p q w h1 z1 h2 z2 hk hp hs (Bq k1)
  ·by_cases hs:(cellAt c h.cell).s=6
   ·exact GH c h a b p q w h1 z1 h2 z2 hk hp hs
   ·cases ht:(gP c h).2 with
    | true=>exact GI c h a b p q w h1 z1 h2 z2 hk hp (by simpa using hs) ht
    | false=>exact GJ c h a b p q w h1 z1 h2 z2 hk hp (by simpa using hs) ht
  ·exact JO c h a b p q w h1 z1 h2 z2 hk hp
  ·exact Kb c h a b p q w h1 z1 h2 z2 hk hp
  ·cases ht:fo c h.wait 1 with
   | true=>exact GA c h a b p q w h1 z1 h2 z2 hk hp ht
   | false=>exact GD c h a b p q w h1 z1 h2 z2 hk hp ht
  ·exact JR c h a b p q w h1 z1 h2 z2 hk hp
  ·exact JS c h a b p q w h1 z1 h2 z2 hk hp
theorem vM (c:Ch) (h:Ha) (a b:Option Addr) (p q:Nat) (w:World) (h1:eY w w.heap.size a c.cells) (z1:a=none→p=0) (h2:eQ w w.heap.size b c.words) (z2:b=none→q=0) :
  Calls Tryz.prog 189 #[.agg (af c (.slice a c.cells.length p) (.slice b c.words.length q)),.agg (aa h)] w fun r w'=>bV w w' (aZ c h) r:=by
 cases hk:bf c h 1 8 1 with
 | false=>exact JE c h a b p q w h1 h2 hk
 | true =>
  obtain ⟨k1,_,k3,k4⟩:=bQ hk
  have hp:h.pos=1∨h.pos=2∨h.pos=3∨h.pos=4∨h.pos=5∨h.pos=6∨h.pos=7∨h.pos=8:=by omega
  rcases hp with hp|hp|hp|hp|hp|hp|hp|hp
  ·by_cases hs:c.sent=40
   ·exact JY c h a b p q w h1 z1 h2 z2 hk hp hs
   ·exact JF c h a b p q w h1 z1 h2 z2 hk hp hs (xJ k1)
  ·exact MH c h a b p q w h1 z1 h2 z2 hk hp
  ·cases ht:(je c h).2 with
   | true=>exact JZ c h a b p q w h1 z1 h2 z2 hk hp ht
   | false=>exact Ka c h a b p q w h1 z1 h2 z2 hk hp ht
  ·exact M8 c h a b p q w h1 z1 h2 z2 hk hp
  ·exact M9 c h a b p q w h1 z1 h2 z2 hk hp
  ·exact ML c h a b p q w h1 z1 h2 z2 hk hp
  ·exact MK c h a b p q w h1 z1 h2 z2 hk hp
  ·exact MJ c h a b p q w h1 z1 h2 z2 hk hp
end
section
open Go.RowKit
attribute [local simp] aC
attribute [local go_sem ↓] aB aU aL bB aM bC aG aN au aF
theorem iO (c:Ch) (a b:Option Addr) (p q:Nat) (w:World) (h1:eY w w.heap.size a c.cells) (h2:eQ w w.heap.size b c.words) (m1:c.cells.length≤maxLen) (m2:c.words.length≤maxLen) :
  Calls Tryz.prog 98 #[.agg (af c (.slice a c.cells.length p) (.slice b c.words.length q))] w fun r w'=>r=.returned (.bool (aK c))∧Below w.heap.size w w':=fZ c a b p q w h1 h2 m1 m2
theorem rZ (c:Ch) (a b:Option Addr) (p q:Nat) (w:World) (h1:eY w w.heap.size a c.cells) (z1:a=none→p=0) (h2:eQ w w.heap.size b c.words) (z2:b=none→q=0) (m1:c.cells.length≤1099511627776) (m2:c.words.length≤1099511627776) :
  Calls Tryz.prog 101 #[.agg (af c (.slice a c.cells.length p) (.slice b c.words.length q))] w fun r w'=>(∃ v1 v2,r=.returned (.agg (af c v1 v2))∧ag w' w.heap.size v1 c.cells∧ai w' w.heap.size v2 c.words)∧Below w.heap.size w w':=lK c a b p q w h1 z1 h2 z2 m1 m2
def kP (x:St):St:=if aK x.1 && bW x.2.1 then x else nothing
theorem FJ {w:World} {lo:Nat} {e:TypeId} {k n p:Nat} {a:Option Addr} {xs:List Value} (h:w.ownsRow lo e k (.slice a n p) n xs):n≤maxLen:=by
 rcases h.2 with ⟨_,h1⟩|⟨g,cap,cur,_,_,_,h1,h2,_⟩
 ·omega
 ·exact Nat.le_trans h1 h2
theorem fA {w w':World} {v1 v2:Value} {lo lo' b k k' n n':Nat} {e e' T:TypeId} {x:Array Value} {xs xs':List Value} (hz:hp w b=some (.cells x T)) (hO:ik v1.ownBlock v2.ownBlock w w') (o1:w.ownsRow lo e k v1 n xs) (o2:w.ownsRow lo' e' k' v2 n' xs') (h1:e≠T) (h2:e'≠T):hp w' b=some (.cells x T) :=
 (zZ hO (bO hz).2.2 (fun e=>dh o1 hz h1 _ e.symm rfl) (fun e=>dh o2 hz h2 _ e.symm rfl)).trans hz
theorem gy.onl {w w':World} {v v1 v2:Value} {lo lo1 lo2 k k' n n':Nat} {e e' T:TypeId} {x:Array Value} {xs xs':List Value} (h:gy w v lo x T) (hO:ik v1.ownBlock v2.ownBlock w w') (o1:w.ownsRow lo1 e k v1 n xs) (o2:w.ownsRow lo2 e' k' v2 n' xs') (h1:e≠T) (h2:e'≠T):gy w' v lo x T:=by
 obtain ⟨b,eb,hl,hz⟩:=h
 exact ⟨b,eb,hl,fA hz hO o1 o2 h1 h2⟩
theorem mg (F:Nat) (x:St) (c:Ch) (h:Ha) (a b:Option Addr) (p q:Nat) (w:World) (h1:eY w w.heap.size a c.cells) (z1:a=none→p=0) (h2:eQ w w.heap.size b c.words) (z2:b=none→q=0) (hc:aK c=true) (hh:bW h=true) (eg:∀ args w,(callFunc F args).run Tryz.prog w=.ok (.enter F args) w) (HF:∀ (v1 v2:Value) (lo:Nat) (W:World),ag W lo v1 c.cells→ai W lo v2 c.words→lo≤W.heap.size→Calls Tryz.prog F #[.agg (af c v1 v2),.agg (aa h)] W fun r w'=>cz W w' lo v1 v2 x r) :
  Calls Tryz.prog 236 #[.func (.func F) #[] #[],.agg (af c (.slice a c.cells.length p) (.slice b c.words.length q)),.agg (aa h)] w fun r w'=>bV w w' (kP x) r:=by
 obtain ⟨n1,n2⟩:=jh hc
 have l1:c.cells.length≤maxLen:=by unfold maxLen;omega
 have l2:c.words.length≤maxLen:=by unfold maxLen;omega
 have m1:c.cells.length≤1099511627776:=by omega
 have m2:c.words.length≤1099511627776:=by omega
 have H1:=Lib.hid h1
 have H2:=Lib.hid h2
 have Z1:=Lib.hid z1
 have Z2:=Lib.hid z2
 clear h1 h2 z1 z2 n1 n2
 obtain ⟨X,Og⟩:∃ X,X=kP x:=⟨_,rfl⟩
 rw [← Og]
 have Pg:=Lib.hid HF
 clear HF
 go_enter Tryz.func236,Tryz.ntmps236
 go_wp2_with fail;refine ax w zB fun bb=>?_;refine (iO c a b p q _ (aT H1 bb) (aT H2 bb) l1 l2).mono ?_;rintro _ w1 ⟨rfl,ah⟩;have aW:Below w.heap.size w w1:=bT bb ah;have ay:=ah.size;(try simp at ay);have zz:=q4 ah (b:=w.heap.size);(try simp [go_sem] at zz);(try clear aA bK bL aR);(try clear aH cB cK bq);(try clear bz di dz bZ);(try clear dw dV eD dJ);obtain ⟨aA,aH,bz,dw⟩:=zz;obtain ⟨bK,bL,aR⟩:=bO aA;obtain ⟨cB,cK,bq⟩:=bO aH;obtain ⟨di,dz,bZ⟩:=bO bz;obtain ⟨dV,eD,dJ⟩:=bO dw;clear ah bb
 rw [hc]
 go_wp2_with fail;refine ax w zB fun bb=>?_;refine (gV h _).mono ?_;rintro _ w2 ⟨rfl,hbw2⟩;have dE:Below w.heap.size w w2:=bT bb hbw2;have bu:=hbw2.size;(try simp at bu);have zz:=q4 hbw2 (b:=w.heap.size);(first|simp [go_sem,aA,aH,bz,dw,dJ,bZ,bq,aR] at zz|simp [go_sem] at zz|skip);(try clear aA bK bL aR);(try clear aH cB cK bq);(try clear bz di dz bZ);(try clear dw dV eD dJ);obtain ⟨aA,aH,bz,dw⟩:=zz;obtain ⟨bK,bL,aR⟩:=bO aA;obtain ⟨cB,cK,bq⟩:=bO aH;obtain ⟨di,dz,bZ⟩:=bO bz;obtain ⟨dV,eD,dJ⟩:=bO dw;clear hbw2 bb
 rw [hh]
 go_upto_region 3 with fail
 refine bI [[],[],[1],[],[0,1,2,3],[0,1,2,3,4],[0,1,2,3,4,5],[0,1,2,3,4,5],[0,1,2,3,4,5],[],[],[0,1,2,3,4,5,6,9],[0,1,2,3,4,5,7,10],[0,1,2,3,4,5,8]] [25,26,27,28,29,24,30,31,32,9,10,11] (fun l s wx=>(Below w2.heap.size w2 wx)∧(l 0=true→s 25=.func (.func F) #[] #[])∧(l 1=true→s 26=.agg (af c (.slice a c.cells.length p) (.slice b c.words.length q)))∧(l 2=true→l 4=false→s 27=.agg (af c (s 1001) (s 1002))∧ag wx w2.heap.size (s 1001) c.cells∧ai wx w2.heap.size (s 1002) c.words)∧(l 3=true→s 28=.agg (aa h))∧(l 4=true→s 29=.tuple #[.agg (af x.1 (s 1003) (s 1004)),.agg (aa x.2.1),.bool x.2.2]∧ag wx w2.heap.size (s 1003) x.1.cells∧ai wx w2.heap.size (s 1004) x.1.words)∧(l 5=true→s 24=.tuple #[.agg (af x.1 (s 1003) (s 1004)),.agg (aa x.2.1),.bool x.2.2])∧(l 6=true→s 30=.agg (af x.1 (s 1003) (s 1004)))∧(l 7=true→s 31=.agg (aa x.2.1))∧(l 8=true→s 32=.bool x.2.2)∧(l 9=true→gy wx (s 9) w2.heap.size (cond (l 11) (af x.1 (s 1003) (s 1004)) (af Ch.zero (.slice none 0 0) (.slice none 0 0))) 31)∧(l 10=true→gy wx (s 10) w2.heap.size (cond (l 12) (aa x.2.1) (aa Ha.zero)) 49)∧(l 13=true→s 11=.bool x.2.2)) (by kernel_rfl) (by kernel_rfl) (by kernel_rfl) (fun s=>by (simp only [fill,fC,List.setIfInBounds_toArray,List.set_cons_zero,List.set_cons_succ];rfl)) (fun s=>⟨(Below.refl _ _).drew,nB,nB,nB,nB,nB,nB,nB,nB,nB,nB,nB,nB⟩) ?_ ?_
 refine ⟨?_,?_,?_,?_,?_,?_,?_,?_,?_,?_,?_,?_,?_,?_,trivial⟩;iterate 14 (intro l s wx hl hd hn hf K hK;rotate_left)
 ·intro l s w8 hall hf
  have hB:=hf.1
  obtain ⟨_,IA,IB⟩:=((jC hf).2.1 (hall 4 rfl))
  obtain ⟨gc,ea,hgc,jP⟩:=((jD hf).2.2.1 (hall 9 rfl))
  obtain ⟨gh,eb,hgh,gY⟩:=((jD hf).2.2.2.1 (hall 10 rfl))
  have ec:=((jC (jD hf)) (hall 13 rfl))
  rw [hall 11 rfl] at jP
  rw [hall 12 rfl] at gY
  dsimp only [cond] at jP gY
  simp only [ea,eb,ec]
  clear ea eb ec hf hall
  generalize s 1003=v1 at *
  generalize s 1004=v2 at *
  have VH:Below w.heap.size w w8:=bT dE hB
  have z8:=dS aH hB
  have z9:=dS aA hB
  have hq2:=(bO aA).2.2
  clear dw dV eD dJ bz di dz bZ aH cB cK bq aA bK bL aR
  have aH:=z8
  have aA:=z9
  clear z8 z9
  have Xo:=hB.size
  have hg0:w.heap.size+1+1<gc:=by omega
  have hg1:w.heap.size+1+1+1<gc:=by omega
  have hg2:w.heap.size+1+1<gh:=by omega
  have hg3:w.heap.size+1+1+1<gh:=by omega
  clear Pg
  obtain ⟨c2,h2,ok⟩:=x
  replace IA:ag w8 (w.heap.size+1+1+1+1) v1 c2.cells:=av IA tO
  replace IB:ai w8 (w.heap.size+1+1+1+1) v2 c2.words:=av IB tO
  dsimp only at jP gY ⊢
  obtain ⟨ya,yp,rfl,G1⟩:=IA.seg
  obtain ⟨yb,yq,rfl,G2⟩:=IB.seg
  obtain ⟨vN,vO,qf⟩:=bO jP
  obtain ⟨qg,qG,nS⟩:=bO gY
  obtain ⟨cB,cK,bq⟩:=bO aH
  obtain ⟨bK,bL,aR⟩:=bO aA
  have L1:=FJ IA
  have L2:=FJ IB
  have K1:=Lib.hid G1
  have K2:=Lib.hid G2
  clear G1 G2
  have T:=Lib.hid fun W=>fw W w.heap.size (.slice none 0 0) (.slice none 0 0)
  have d1:∀ j,(Value.slice none 0 0).ownBlock=some j→w.heap.size+1+1+1+1≤j:=fun j hj=>by cases hj
  have d2:=d1
  cases hc2:aK c2 with
  | false =>
   have E:X=nothing:=Og.trans (by simp [kP,hc2])
   rw [← E] at T
   clear E Og
   go_wp2_with fail
   refine (iO c2 ya yb yp yq _ ((K1.out.below zB).more tS) ((K2.out.below zB).more tS) L1 L2).mono ?_
   rintro _ w9 ⟨rfl,eG⟩
   have sI:Below w.heap.size w w9:=bT zB eG
   have PI:Below w8.heap.size w8 w9:=bT zB eG
   have jc:=eG.size;(try (simp at jc));have zz:=hQ eG (b:=gc);(first|(simp [go_sem,jP,qf] at zz)|(simp [go_sem] at zz));(try clear vN vO);(try clear jP);have jP:=zz;clear zz;(try clear qf);obtain ⟨vN,vO,qf⟩:=bO jP;have zz:=hQ eG (b:=gh);(first|(simp [go_sem,gY,nS] at zz)|(simp [go_sem] at zz));(try clear qg qG);(try clear gY);have gY:=zz;clear zz;(try clear nS);obtain ⟨qg,qG,nS⟩:=bO gY;have zz:=hQ eG (b:=w.heap.size+1+1);(first|(simp [go_sem,aH,bq] at zz)|(simp [go_sem] at zz));(try clear cB cK);(try clear aH);have aH:=zz;clear zz;(try clear bq);obtain ⟨cB,cK,bq⟩:=bO aH;have zz:=hQ eG (b:=w.heap.size+1+1+1);(first|(simp [go_sem,aA,aR] at zz)|(simp [go_sem] at zz));(try clear bK bL);(try clear aA);have aA:=zz;clear zz;(try clear aR);obtain ⟨bK,bL,aR⟩:=bO aA
   rw [hc2]
   go_wp2_with fail
   refine (T.out _).mono ?_
   rintro _ Ke ⟨⟨y1,y2,rfl,aV,aX,dL,dI⟩,qH⟩
   have PK:Below w.heap.size w Ke:=bT zB qH
   have Kg:=qH.size;(try (simp at Kg));have zz:=hQ qH (b:=w.heap.size+1+1);(first|(simp [go_sem,aH,bq] at zz)|(simp [go_sem] at zz));(try clear cB cK);(try clear aH);have aH:=zz;clear zz;(try clear bq);obtain ⟨cB,cK,bq⟩:=bO aH;have zz:=hQ qH (b:=w.heap.size+1+1+1);(first|(simp [go_sem,aA,aR] at zz)|(simp [go_sem] at zz));(try clear bK bL);(try clear aA);have aA:=zz;clear zz;(try clear aR);obtain ⟨bK,bL,aR⟩:=bO aA
   obtain ⟨⟨aI,aJ⟩,dP,dQ⟩:=lL (w:=w) (w.heap.size+1+1+1+1) dL dI d1 d2;obtain ⟨ya,yp,rfl,_⟩:=aV.seg;obtain ⟨yb,yq,rfl,_⟩:=aX.seg
   go_wp2
   refine rE Tryz.results236 rfl (az X.1 (.slice ya X.1.cells.length yp) (.slice yb X.1.words.length yq) tY) rfl (aj X.2.1 tY) ⟨⟨_,_,rfl,?_,?_,dP,dQ⟩,by exact zB⟩
   ·exact zP aV aV aI
   ·exact zP aX aX aJ
  | true =>
   cases Pe:bW h2 with
   | false =>
    have E:X=nothing:=Og.trans (by simp [kP,Pe])
    rw [← E] at T
    clear E Og
    go_wp2_with fail
    refine (iO c2 ya yb yp yq _ ((K1.out.below zB).more tS) ((K2.out.below zB).more tS) L1 L2).mono ?_
    rintro _ w9 ⟨rfl,eG⟩
    have sI:Below w.heap.size w w9:=bT zB eG
    have PI:Below w8.heap.size w8 w9:=bT zB eG
    have jc:=eG.size;(try (simp at jc));have zz:=hQ eG (b:=gc);(first|(simp [go_sem,jP,qf] at zz)|(simp [go_sem] at zz));(try clear vN vO);(try clear jP);have jP:=zz;clear zz;(try clear qf);obtain ⟨vN,vO,qf⟩:=bO jP;have zz:=hQ eG (b:=gh);(first|(simp [go_sem,gY,nS] at zz)|(simp [go_sem] at zz));(try clear qg qG);(try clear gY);have gY:=zz;clear zz;(try clear nS);obtain ⟨qg,qG,nS⟩:=bO gY;have zz:=hQ eG (b:=w.heap.size+1+1);(first|(simp [go_sem,aH,bq] at zz)|(simp [go_sem] at zz));(try clear cB cK);(try clear aH);have aH:=zz;clear zz;(try clear bq);obtain ⟨cB,cK,bq⟩:=bO aH;have zz:=hQ eG (b:=w.heap.size+1+1+1);(first|(simp [go_sem,aA,aR] at zz)|(simp [go_sem] at zz));(try clear bK bL);(try clear aA);have aA:=zz;clear zz;(try clear aR);obtain ⟨bK,bL,aR⟩:=bO aA
    rw [hc2]
    go_wp2_with fail
    refine (gV h2 _).mono ?_
    rintro _ PL ⟨rfl,lM⟩
    have PM:Below w.heap.size w PL:=bT zB lM
    have Br:Below w8.heap.size w8 PL:=bT zB lM
    have Kh:=lM.size;(try (simp at Kh));have zz:=hQ lM (b:=gc);(first|(simp [go_sem,jP,qf] at zz)|(simp [go_sem] at zz));(try clear vN vO);(try clear jP);have jP:=zz;clear zz;(try clear qf);obtain ⟨vN,vO,qf⟩:=bO jP;have zz:=hQ lM (b:=gh);(first|(simp [go_sem,gY,nS] at zz)|(simp [go_sem] at zz));(try clear qg qG);(try clear gY);have gY:=zz;clear zz;(try clear nS);obtain ⟨qg,qG,nS⟩:=bO gY;have zz:=hQ lM (b:=w.heap.size+1+1);(first|(simp [go_sem,aH,bq] at zz)|(simp [go_sem] at zz));(try clear cB cK);(try clear aH);have aH:=zz;clear zz;(try clear bq);obtain ⟨cB,cK,bq⟩:=bO aH;have zz:=hQ lM (b:=w.heap.size+1+1+1);(first|(simp [go_sem,aA,aR] at zz)|(simp [go_sem] at zz));(try clear bK bL);(try clear aA);have aA:=zz;clear zz;(try clear aR);obtain ⟨bK,bL,aR⟩:=bO aA
    rw [Pe]
    have r1:=own_below IA Br
    have r2:=own_below IB Br
    go_wp2_with fail
    refine (T.out _).mono ?_
    rintro _ Ke ⟨⟨y1,y2,rfl,aV,aX,dL,dI⟩,qH⟩
    have PK:Below w.heap.size w Ke:=bT zB qH
    have Kg:=qH.size;(try (simp at Kg));have zz:=hQ qH (b:=w.heap.size+1+1);(first|(simp [go_sem,aH,bq] at zz)|(simp [go_sem] at zz));(try clear cB cK);(try clear aH);have aH:=zz;clear zz;(try clear bq);obtain ⟨cB,cK,bq⟩:=bO aH;have zz:=hQ qH (b:=w.heap.size+1+1+1);(first|(simp [go_sem,aA,aR] at zz)|(simp [go_sem] at zz));(try clear bK bL);(try clear aA);have aA:=zz;clear zz;(try clear aR);obtain ⟨bK,bL,aR⟩:=bO aA
    obtain ⟨⟨aI,aJ⟩,dP,dQ⟩:=lL (w:=w) (w.heap.size+1+1+1+1) dL dI d1 d2;obtain ⟨ya,yp,rfl,_⟩:=aV.seg;obtain ⟨yb,yq,rfl,_⟩:=aX.seg
    go_wp2
    refine rE Tryz.results236 rfl (az X.1 (.slice ya X.1.cells.length yp) (.slice yb X.1.words.length yq) tY) rfl (aj X.2.1 tY) ⟨⟨_,_,rfl,?_,?_,dP,dQ⟩,by exact zB⟩
    ·exact zP aV aV aI
    ·exact zP aX aX aJ
   | true =>
    have E:=Lib.hid (Og.trans (show kP (c2,h2,ok)=(c2,h2,ok) by simp [kP,hc2,Pe]))
    clear Og
    go_wp2_with fail
    refine (iO c2 ya yb yp yq _ ((K1.out.below zB).more tS) ((K2.out.below zB).more tS) L1 L2).mono ?_
    rintro _ w9 ⟨rfl,eG⟩
    have sI:Below w.heap.size w w9:=bT zB eG
    have PI:Below w8.heap.size w8 w9:=bT zB eG
    have jc:=eG.size;(try (simp at jc));have zz:=hQ eG (b:=gc);(first|(simp [go_sem,jP,qf] at zz)|(simp [go_sem] at zz));(try clear vN vO);(try clear jP);have jP:=zz;clear zz;(try clear qf);obtain ⟨vN,vO,qf⟩:=bO jP;have zz:=hQ eG (b:=gh);(first|(simp [go_sem,gY,nS] at zz)|(simp [go_sem] at zz));(try clear qg qG);(try clear gY);have gY:=zz;clear zz;(try clear nS);obtain ⟨qg,qG,nS⟩:=bO gY;have zz:=hQ eG (b:=w.heap.size+1+1);(first|(simp [go_sem,aH,bq] at zz)|(simp [go_sem] at zz));(try clear cB cK);(try clear aH);have aH:=zz;clear zz;(try clear bq);obtain ⟨cB,cK,bq⟩:=bO aH;have zz:=hQ eG (b:=w.heap.size+1+1+1);(first|(simp [go_sem,aA,aR] at zz)|(simp [go_sem] at zz));(try clear bK bL);(try clear aA);have aA:=zz;clear zz;(try clear aR);obtain ⟨bK,bL,aR⟩:=bO aA
    rw [hc2]
    go_wp2_with fail
    refine (gV h2 _).mono ?_
    rintro _ PL ⟨rfl,lM⟩
    have PM:Below w.heap.size w PL:=bT zB lM
    have Br:Below w8.heap.size w8 PL:=bT zB lM
    have Kh:=lM.size;(try (simp at Kh));have zz:=hQ lM (b:=gc);(first|(simp [go_sem,jP,qf] at zz)|(simp [go_sem] at zz));(try clear vN vO);(try clear jP);have jP:=zz;clear zz;(try clear qf);obtain ⟨vN,vO,qf⟩:=bO jP;have zz:=hQ lM (b:=gh);(first|(simp [go_sem,gY,nS] at zz)|(simp [go_sem] at zz));(try clear qg qG);(try clear gY);have gY:=zz;clear zz;(try clear nS);obtain ⟨qg,qG,nS⟩:=bO gY;have zz:=hQ lM (b:=w.heap.size+1+1);(first|(simp [go_sem,aH,bq] at zz)|(simp [go_sem] at zz));(try clear cB cK);(try clear aH);have aH:=zz;clear zz;(try clear bq);obtain ⟨cB,cK,bq⟩:=bO aH;have zz:=hQ lM (b:=w.heap.size+1+1+1);(first|(simp [go_sem,aA,aR] at zz)|(simp [go_sem] at zz));(try clear bK bL);(try clear aA);have aA:=zz;clear zz;(try clear aR);obtain ⟨bK,bL,aR⟩:=bO aA
    rw [Pe]
    have r1:=own_below IA Br
    have r2:=own_below IB Br
    go_wp2_with fail
    go_region
    go_wp2
    refine rE Tryz.results236 rfl (az c2 (.slice ya c2.cells.length yp) (.slice yb c2.words.length yq) tY) rfl (aj h2 tY) ⟨⟨.slice ya c2.cells.length yp,.slice yb c2.words.length yq,by rw [E.out];rfl,?_,?_,fun j hj=>.inr (by have:=(IA.lt j hj).1;omega),fun j hj=>.inr (by have:=(IB.lt j hj).1;omega)⟩,by exact zB⟩
    ·rw [E.out]
     refine av (lo:=w.heap.size+1+1+1+1) ?_ tO
     exact zO r1 IA
    ·rw [E.out]
     refine av (lo:=w.heap.size+1+1+1+1) ?_ tO
     exact zO r2 IB
 ·go_simp
  refine hK.out (upd s 25 (.func (.func F) #[] #[])) _ _ (by simp [ae] <;> rfl) (kA (kX (fun _=>rfl) id) hf.out)
 ·have z:=dS dw hf.out.1
  go_simp
  refine hK.out (upd s 26 (.agg (af c (.slice a c.cells.length p) (.slice b c.words.length q)))) _ _ (by simp [ae] <;> rfl) (kB (kX (fun _=>rfl) id) hf.out)
 ·have e1:=(hf.out.2.2.1 (hd 1 rfl))
  go_simp
  go_at_call 101
  refine (rZ c a b p q _ ((H1.out.below (bT dE hf.out.1)).more (Below.size (bT dE hf.out.1))) Z1.out ((H2.out.below (bT dE hf.out.1)).more (Below.size (bT dE hf.out.1))) Z2.out m1 m2).mono ?_
  rintro _ wy ⟨⟨v1,v2,rfl,X1,X2⟩,hE⟩
  refine hK.out (upd (upd (upd s 1001 (v1)) 1002 (v2)) 27 (.agg (af c v1 v2))) _ _ (by simp [ae,e1] <;> rfl) ⟨bT hf.out.1 hE,hf.out.2.1,hf.out.2.2.1,fun _ _=>⟨rfl,av X1 (Below.size hf.out.1),av X2 (Below.size hf.out.1)⟩,hf.out.2.2.2.2.1,nU (hn 4 rfl),nU (hn 5 rfl),nU (hn 6 rfl),nU (hn 7 rfl),nU (hn 8 rfl),fun h=>gy.below ((jD hf.out).2.2.1 h) hE,fun h=>gy.below ((jD hf.out).2.2.2.1 h) hE,nU (hn 13 rfl)⟩
 ·have z:=dS bz hf.out.1
  go_simp
  refine hK.out (upd s 28 (.agg (aa h))) _ _ (by simp [ae] <;> rfl) (kC (kX (fun _=>rfl) id) hf.out)
 ·have e0:=(hf.out.2.1 (hd 0 rfl))
  have e3:=(hf.out.2.2.2.2.1 (hd 3 rfl))
  obtain ⟨e2,o1,o2⟩:=(hf.out.2.2.2.1 (hd 2 rfl)) hl
  go_simp
  refine (Pg.out _ _ w2.heap.size _ o1 o2 (Below.size hf.out.1)).mono ?_
  rintro _ wy ⟨⟨y1,y2,rfl,X1,X2,_,_⟩,hO⟩
  refine hK.out (upd (upd (upd s 1003 (y1)) 1004 (y2)) 29 (.tuple #[.agg (af x.1 y1 y2),.agg (aa x.2.1),.bool x.2.2])) _ _ (by simp [ae,e0,e3,e2] <;> rfl) ⟨FU hf.out.1 hO (fun j hj=>(o1.lt j hj).1) (fun j hj=>(o2.lt j hj).1),hf.out.2.1,hf.out.2.2.1,fun _ h4=>absurd h4 (by rw [show upd l 4 true 4=true from rfl];decide),hf.out.2.2.2.2.1,fun _=>⟨rfl,X1,X2⟩,nU (hn 5 rfl),nU (hn 6 rfl),nU (hn 7 rfl),nU (hn 8 rfl),fun h=>by (have ee:l 11=false:=hn 11 rfl);(have F:=(jD hf.out).2.2.1 h);rw [ee] at F;rw [show upd l 4 true 11=false from ee];exact F.onl hO o1 o2 (by decide) (by decide),fun h=>by (have ee:l 12=false:=hn 12 rfl);(have F:=(jD hf.out).2.2.2.1 h);rw [ee] at F;rw [show upd l 4 true 12=false from ee];exact F.onl hO o1 o2 (by decide) (by decide),nU (hn 13 rfl)⟩
 ·have e4:=((jC hf.out).2.1 (hd 4 rfl)).1
  go_simp
  refine hK.out (upd s 24 (.tuple #[.agg (af x.1 (s 1003) (s 1004)),.agg (aa x.2.1),.bool x.2.2])) _ _ (by simp [ae,e4] <;> rfl) (kC (kB (kX (fun _=>rfl) id)) hf.out)
 ·have e5:=((jC hf.out).2.2.1 (hd 5 rfl))
  go_simp
  refine hK.out (upd s 30 (.agg (af x.1 (s 1003) (s 1004)))) _ _ (by simp [ae,e5] <;> rfl) (kC (kB (kA (kX (fun _=>rfl) id))) hf.out)
 ·have e5:=((jC hf.out).2.2.1 (hd 5 rfl))
  go_simp
  refine hK.out (upd s 31 (.agg (aa x.2.1))) _ _ (by simp [ae,e5] <;> rfl) (kD (kX (fun _=>rfl) id) hf.out)
 ·have e5:=((jC hf.out).2.2.1 (hd 5 rfl))
  go_simp
  refine hK.out (upd s 32 (.bool x.2.2)) _ _ (by simp [ae,e5] <;> rfl) (kD (kA (kX (fun _=>rfl) id)) hf.out)
 ·go_simp
  refine hK.out (upd s 9 (.pointer (some ⟨wx.heap.size,0,none⟩))) _ _ (by simp [ae] <;> rfl) (kX (bT hf.out.1 (aQ _ _)) (kB (kX (fun h=>fun h4=>(let ⟨e,X1,X2⟩:=(hf.out.2.2.2.1 h) h4;⟨e,own_below X1 (aQ _ _),own_below X2 (aQ _ _)⟩)) (kA (kX (fun h=>(let ⟨e,X1,X2⟩:=((jC hf.out).2.1 h);⟨e,own_below X1 (aQ _ _),own_below X2 (aQ _ _)⟩)) (kC (kX (fun _=>by rw [show upd l 9 true 11=false from hn 11 rfl];exact gy.new (Below.size hf.out.1)) (kX (fun h=>gy.below ((jD hf.out).2.2.2.1 h) (aQ _ _)) id))))))) hf.out)
 ·go_simp
  refine hK.out (upd s 10 (.pointer (some ⟨wx.heap.size,0,none⟩))) _ _ (by simp [ae] <;> rfl) (kX (bT hf.out.1 (aQ _ _)) (kB (kX (fun h=>fun h4=>(let ⟨e,X1,X2⟩:=(hf.out.2.2.2.1 h) h4;⟨e,own_below X1 (aQ _ _),own_below X2 (aQ _ _)⟩)) (kA (kX (fun h=>(let ⟨e,X1,X2⟩:=((jC hf.out).2.1 h);⟨e,own_below X1 (aQ _ _),own_below X2 (aQ _ _)⟩)) (kC (kX (fun h=>gy.below ((jD hf.out).2.2.1 h) (aQ _ _)) (kX (fun _=>by rw [show upd l 10 true 12=false from hn 12 rfl];exact gy.new (Below.size hf.out.1)) id))))))) hf.out)
 ·have e6:=((jC hf.out).2.2.2.1 (hd 6 rfl))
  have e4:=((jC hf.out).2.1 (hd 4 rfl))
  have X1:=e4.2.1
  have X2:=e4.2.2
  clear e4
  obtain ⟨bb,eb,hlo,zb⟩:=((jD hf.out).2.2.1 (hd 9 rfl))
  rw [hl] at zb
  dsimp only [cond] at zb
  obtain ⟨xa,xp,ea,_⟩:=X1.seg
  obtain ⟨xb,xq,mq,_⟩:=X2.seg
  rw [ea,mq] at e6
  have zn:hp (bY wx bb (af x.1 (.slice xa x.1.cells.length xp) (.slice xb x.1.words.length xq))) bb=some (.cells (af x.1 (s 1003) (s 1004)) 31):=by rw [ea,mq];exact fH zb
  go_simp
  refine hK.out (s) _ _ (by simp [ae,eb,e6,ea,mq] <;> rfl) (kX (Fb hf.out.1 hlo) (kB (kX (fun _ h4=>absurd ((hd 4 rfl).symm.trans h4) (by decide)) (kA (kX (fun h=>⟨((jC hf.out).2.1 h).1,cO ((jC hf.out).2.1 h).2.1 zb (by decide),cO ((jC hf.out).2.1 h).2.2 zb (by decide)⟩) (kC (kX (fun _=>⟨bb,eb,hlo,zn⟩) (kX (fun h=>gy.far ((jD hf.out).2.2.2.1 h) zb (by decide)) id))))))) hf.out)
 ·have e7:=((jD hf.out).1 (hd 7 rfl))
  have e4:=((jC hf.out).2.1 (hd 4 rfl))
  have X1:=e4.2.1
  have X2:=e4.2.2
  clear e4
  obtain ⟨bb,eb,hlo,zb⟩:=((jD hf.out).2.2.2.1 (hd 10 rfl))
  rw [hl] at zb
  dsimp only [cond] at zb
  have zn:hp (bY wx bb (aa x.2.1)) bb=some (.cells (aa x.2.1) 49):=by exact fH zb
  go_simp
  refine hK.out (s) _ _ (by simp [ae,eb,e7] <;> rfl) (kX (Fb hf.out.1 hlo) (kB (kX (fun _ h4=>absurd ((hd 4 rfl).symm.trans h4) (by decide)) (kA (kX (fun h=>⟨((jC hf.out).2.1 h).1,cO ((jC hf.out).2.1 h).2.1 zb (by decide),cO ((jC hf.out).2.1 h).2.2 zb (by decide)⟩) (kC (kX (fun h=>gy.far ((jD hf.out).2.2.1 h) zb (by decide)) (kX (fun _=>⟨bb,eb,hlo,zn⟩) id))))))) hf.out)
 ·have e8:=((jD hf.out).2.1 (hd 8 rfl))
  go_simp
  refine hK.out (upd s 11 (.bool x.2.2)) _ _ (by simp [ae,e8] <;> rfl) (kD (kC (fun _=>fun _=>rfl)) hf.out)
theorem mh (F:Nat) (c:Ch) (h:Ha) (a b:Option Addr) (p q:Nat) (w:World) (h1:eY w w.heap.size a c.cells) (z1:a=none→p=0) (h2:eQ w w.heap.size b c.words) (z2:b=none→q=0) (l1:c.cells.length≤maxLen) (l2:c.words.length≤maxLen) (hc:aK c=false) :
  Calls Tryz.prog 236 #[.func (.func F) #[] #[],.agg (af c (.slice a c.cells.length p) (.slice b c.words.length q)),.agg (aa h)] w fun r w'=>bV w w' nothing r:=by
 have H1:=Lib.hid h1
 have H2:=Lib.hid h2
 have T:=Lib.hid fun W=>fw W w.heap.size (.slice none 0 0) (.slice none 0 0)
 generalize nothing=x at *
 clear h1 h2 z1 z2
 have d1:∀ j,(Value.slice none 0 0).ownBlock=some j→w.heap.size+1+1+1+1≤j:=fun j hj=>by cases hj
 have d2:=d1
 go_enter Tryz.func236,Tryz.ntmps236
 go_wp2_with fail;refine ax w zB fun bb=>?_;refine (iO c a b p q _ (aT H1 bb) (aT H2 bb) l1 l2).mono ?_;rintro _ w1 ⟨rfl,ah⟩;obtain ⟨aW,ay,zz⟩:=dZ bb ah (b:=w.heap.size);(try simp at ay);(try simp [go_sem] at zz);replace bX:=dF zz;clear zz ah bb
 rw [hc]
 go_wp2_with fail;refine ax w zB fun bb=>?_;refine (T.out _).mono ?_;rintro _ w9 ⟨⟨y1,y2,rfl,aV,aX,dL,dI⟩,eG⟩;obtain ⟨sI,jc,zz⟩:=dZ bb eG (b:=w.heap.size);(try simp at jc);(first|simp [go_sem,bX] at zz|simp [go_sem] at zz|skip);replace bX:=dF zz;clear zz eG bb
 obtain ⟨⟨aI,aJ⟩,dP,dQ⟩:=lL (w:=w) (w.heap.size+1+1+1+1) dL dI d1 d2;obtain ⟨ya,yp,rfl,_⟩:=aV.seg;obtain ⟨yb,yq,rfl,_⟩:=aX.seg
 go_wp2
 refine rE Tryz.results236 rfl (az x.1 (.slice ya x.1.cells.length yp) (.slice yb x.1.words.length yq) tY) rfl (aj x.2.1 tY) ⟨⟨_,_,rfl,?_,?_,dP,dQ⟩,by exact zB⟩
 ·exact zP aV aV aI
 ·exact zP aX aX aJ
theorem mi (F:Nat) (c:Ch) (h:Ha) (a b:Option Addr) (p q:Nat) (w:World) (h1:eY w w.heap.size a c.cells) (z1:a=none→p=0) (h2:eQ w w.heap.size b c.words) (z2:b=none→q=0) (l1:c.cells.length≤maxLen) (l2:c.words.length≤maxLen) (hc:aK c=true) (hh:bW h=false) :
  Calls Tryz.prog 236 #[.func (.func F) #[] #[],.agg (af c (.slice a c.cells.length p) (.slice b c.words.length q)),.agg (aa h)] w fun r w'=>bV w w' nothing r:=by
 have H1:=Lib.hid h1
 have H2:=Lib.hid h2
 have T:=Lib.hid fun W=>fw W w.heap.size (.slice none 0 0) (.slice none 0 0)
 generalize nothing=x at *
 clear h1 h2 z1 z2
 have d1:∀ j,(Value.slice none 0 0).ownBlock=some j→w.heap.size+1+1+1+1≤j:=fun j hj=>by cases hj
 have d2:=d1
 go_enter Tryz.func236,Tryz.ntmps236
 go_wp2_with fail;refine ax w zB fun bb=>?_;refine (iO c a b p q _ (aT H1 bb) (aT H2 bb) l1 l2).mono ?_;rintro _ w1 ⟨rfl,ah⟩;obtain ⟨aW,ay,zz⟩:=dZ bb ah (b:=w.heap.size);(try simp at ay);(try simp [go_sem] at zz);replace bX:=dF zz;clear zz ah bb
 rw [hc]
 go_wp2_with fail;refine ax w zB fun bb=>?_;refine (gV h _).mono ?_;rintro _ w2 ⟨rfl,hbw2⟩;obtain ⟨dE,bu,zz⟩:=dZ bb hbw2 (b:=w.heap.size);(try simp at bu);(first|simp [go_sem,bX] at zz|simp [go_sem] at zz|skip);replace bX:=dF zz;clear zz hbw2 bb
 rw [hh]
 go_wp2_with fail;refine ax w zB fun bb=>?_;refine (T.out _).mono ?_;rintro _ w9 ⟨⟨y1,y2,rfl,aV,aX,dL,dI⟩,eG⟩;obtain ⟨sI,jc,zz⟩:=dZ bb eG (b:=w.heap.size);(try simp at jc);(first|simp [go_sem,bX] at zz|simp [go_sem] at zz|skip);replace bX:=dF zz;clear zz eG bb
 obtain ⟨⟨aI,aJ⟩,dP,dQ⟩:=lL (w:=w) (w.heap.size+1+1+1+1) dL dI d1 d2;obtain ⟨ya,yp,rfl,_⟩:=aV.seg;obtain ⟨yb,yq,rfl,_⟩:=aX.seg
 go_wp2
 refine rE Tryz.results236 rfl (az x.1 (.slice ya x.1.cells.length yp) (.slice yb x.1.words.length yq) tY) rfl (aj x.2.1 tY) ⟨⟨_,_,rfl,?_,?_,dP,dQ⟩,by exact zB⟩
 ·exact zP aV aV aI
 ·exact zP aX aX aJ
end
section
open Go.RowKit
attribute [local simp] aC
attribute [local go_sem ↓] aB aU aL bB aM bC aG aN au aF
theorem qI (c:Ch) (h:Ha) (v1 v2:Value) (lo:Nat) (w:World) (h1:ag w lo v1 c.cells) (h2:ai w lo v2 c.words) (hc0:0≤h.cell) (hc1:h.cell<c.cells.length) (hc:aK c=true) (hlo:lo≤w.heap.size) (hx:h.come≤h.cell) (PH:(h.seen == 0)=true∨((h.seen == 0)=false∧(h.seen == 1)=true)) :
  cu 263 c h v1 v2 lo w (xH c 4 (dR h 1) { h with pos:=10 }):=by
 rcases PH with hs|⟨hs0,hs⟩
 all_goals
  have T0:=fun W a b hl=>uB c 4 (dR h 1) { h with pos:=10 } v1 v2 lo W a b hc0 hc1 hc hl
  change ∀ W,_→_→_→Calls _ _ _ _ (fun r w'=>StepB W w' lo v1 v2 (xH c 4 (dR h 1) { h with pos:=10 }) r) at T0
  have hy:¬ h.cell<h.come:=by omega
  clear hc hc0 hc1
  generalize xH c 4 (dR h 1) { h with pos:=10 }=x at *
  obtain ⟨a1,q1,a2,q2,rfl,rfl,O1,O2,b1,b2⟩:=ql h1 h2
  clear h1 h2
  have T:=Lib.hid T0
  clear T0
  have o1:=O1.out
  have o2:=O2.out
  go_enter Tryz.func263,Tryz.ntmps263
  go_upto_region 8 with fail
  refine bI [[],[],[1],[],[3],[0,1,2,3,4],[0,1,2,3,4,5],[0,1,2,3,4,5],[0,1,2,3,4,5],[0,1,2,3,4,5,6],[0,1,2,3,4,5,7],[0,1,2,3,4,5,8]] [23,24,25,26,27,28,29,30,31,6] (fun l s wx=>(ik (Value.slice a1 c.cells.length q1).ownBlock (Value.slice a2 c.words.length q2).ownBlock w wx)∧(w.heap.size+1+1+1+1≤wx.heap.size)∧(hp wx w.heap.size=some (.cells (af c (.slice a1 c.cells.length q1) (.slice a2 c.words.length q2)) 31))∧(hp wx (w.heap.size+1)=some (.cells (aa h) 49))∧(hp wx (w.heap.size+1+1)=some (.cells (cond (l 9) (af x.1 (s 1003) (s 1004)) (af Ch.zero (.slice none 0 0) (.slice none 0 0))) 31))∧(hp wx (w.heap.size+1+1+1)=some (.cells (cond (l 10) (aa x.2.1) (aa Ha.zero)) 49))∧(l 5=false→ag wx lo (.slice a1 c.cells.length q1) c.cells)∧(l 5=false→ai wx lo (.slice a2 c.words.length q2) c.words)∧(l 0=true→s 23=.agg (af c (.slice a1 c.cells.length q1) (.slice a2 c.words.length q2)))∧(l 1=true→s 24=.agg (aa h))∧(l 2=true→s 25=.agg (aa (dR h 1)))∧(l 3=true→s 26=.agg (aa h))∧(l 4=true→s 27=.agg (aa ({ h with pos:=10 })))∧(l 5=true→s 28=.tuple #[.agg (af x.1 (s 1003) (s 1004)),.agg (aa x.2.1),.bool x.2.2]∧ag wx lo (s 1003) x.1.cells∧ai wx lo (s 1004) x.1.words∧dW w (.slice a1 c.cells.length q1) (s 1003)∧dW w (.slice a2 c.words.length q2) (s 1004))∧(l 6=true→s 29=.agg (af x.1 (s 1003) (s 1004)))∧(l 7=true→s 30=.agg (aa x.2.1))∧(l 8=true→s 31=.bool x.2.2)∧(l 11=true→s 6=.bool x.2.2)) (by kernel_rfl) (by kernel_rfl) (by kernel_rfl) (fun s=>by (simp only [fill,fC,List.setIfInBounds_toArray,List.set_cons_zero,List.set_cons_succ];rfl)) (fun s=>⟨dx zB,by simp,by simp [go_sem, *],by simp [go_sem, *],by simp [go_sem, *],by simp [go_sem, *],fun _=>by exact zO o1 o1,fun _=>by exact zO o2 o2,nB,nB,nB,nB,nB,nB,nB,nB,nB,nB⟩) ?_ ?_
  refine ⟨?_,?_,?_,?_,?_,?_,?_,?_,?_,?_,?_,?_,trivial⟩;iterate 12 (intro l s wx hl hd hn hf K hK;rotate_left)
  ·intro l s wx hall hf
   have hO:=hf.1
   have z1:=hf.2.2.2.2.1
   have z2:=(jC hf).2.1
   rw [hall 9 rfl] at z1
   rw [hall 10 rfl] at z2
   dsimp only [cond] at z1 z2
   obtain ⟨_,X1,X2,F1,F2⟩:=((jC (jD hf)).2.1 (hall 5 rfl))
   have ec:=((jE hf).2 (hall 11 rfl))
   simp only [ec]
   clear ec hf hall
   go_wp2
   exact bodyPost_ret (iV Tryz.results263 rfl (az x.1 _ _ z1) rfl (aj x.2.1 z2)) rfl ⟨⟨_,_,rfl,X1,X2,F1,F2⟩,hO⟩
  ·have zc:=hf.out.2.2.1
   go_simp
   refine hK.out (upd s 23 (.agg (af c (.slice a1 c.cells.length q1) (.slice a2 c.words.length q2)))) _ _ (by simp [ae] <;> rfl) (kD (kX (fun _=>rfl) id) hf.out)
  ·have zh:=hf.out.2.2.2.1
   go_simp
   refine hK.out (upd s 24 (.agg (aa h))) _ _ (by simp [ae] <;> rfl) (kD (kA (kX (fun _=>rfl) id)) hf.out)
  ·have e1:=((jD hf.out).2.1 (hd 1 rfl))
   go_simp
   go_at_call 264
   refine (mf h 1 _).mono ?_
   rintro _ wy ⟨rfl,hE⟩
   refine hK.out (upd s 25 (.agg (aa (dR h 1)))) _ _ (by simp [ae,e1] <;> rfl) (kX (fu hf.out.1 (dx hE)) (kX (Nat.le_trans hf.out.2.1 (Below.size hE)) (kX (dS hf.out.2.2.1 hE) (kX (dS hf.out.2.2.2.1 hE) (kX (dS hf.out.2.2.2.2.1 hE) (kX (dS (jC hf.out).2.1 hE) (kX (fun h9=>own_below ((jC hf.out).2.2.1 h9) hE) (kX (fun h9=>own_below ((jC hf.out).2.2.2.1 h9) hE) (kB (kX (fun _=>rfl) (kB (kX (nU (hn 5 rfl)) (kX (nU (hn 6 rfl)) (kX (nU (hn 7 rfl)) (kX (nU (hn 8 rfl)) (fun _=>nU (hn 11 rfl)))))))))))))))) hf.out)
  ·have zh:=hf.out.2.2.2.1
   go_simp
   refine hK.out (upd s 26 (.agg (aa h))) _ _ (by simp [ae] <;> rfl) (kD (kB (kA (kX (fun _=>rfl) id))) hf.out)
  ·have e3:=((jD hf.out).2.2.2.1 (hd 3 rfl))
   go_simp
   go_at_call 247
   refine (cZ h 10 _).mono ?_
   rintro _ wy ⟨rfl,hE⟩
   refine hK.out (upd s 27 (.agg (aa ({ h with pos:=10 })))) _ _ (by simp [ae,e3] <;> rfl) (kX (fu hf.out.1 (dx hE)) (kX (Nat.le_trans hf.out.2.1 (Below.size hE)) (kX (dS hf.out.2.2.1 hE) (kX (dS hf.out.2.2.2.1 hE) (kX (dS hf.out.2.2.2.2.1 hE) (kX (dS (jC hf.out).2.1 hE) (kX (fun h9=>own_below ((jC hf.out).2.2.1 h9) hE) (kX (fun h9=>own_below ((jC hf.out).2.2.2.1 h9) hE) (kC (kX (fun _=>rfl) (kX (nU (hn 5 rfl)) (kX (nU (hn 6 rfl)) (kX (nU (hn 7 rfl)) (kX (nU (hn 8 rfl)) (fun _=>nU (hn 11 rfl))))))))))))))) hf.out)
  ·have e0:=((jD hf.out).1 (hd 0 rfl))
   have e2:=((jD hf.out).2.2.1 (hd 2 rfl))
   have e4:=((jC (jD hf.out)).1 (hd 4 rfl))
   go_simp
   go_at_call 255
   refine (T.out _ ((jC hf.out).2.2.1 hl) ((jC hf.out).2.2.2.1 hl) (Nat.le_trans hlo hf.out.1.2.2.2.1)).mono ?_
   rintro _ wy ⟨⟨y1,y2,rfl,X1,X2,F1,F2⟩,hE⟩
   have hO:=dx (a:=(Value.slice a1 c.cells.length q1).ownBlock) (b:=(Value.slice a2 c.words.length q2).ownBlock) hE
   refine hK.out (upd (upd (upd s 1003 (y1)) 1004 (y2)) 28 (.tuple #[.agg (af x.1 y1 y2),.agg (aa x.2.1),.bool x.2.2])) _ _ (by simp [ae,e0,e2,e4] <;> rfl) (kX (fu hf.out.1 hO) (kX (Nat.le_trans hf.out.2.1 hO.2.2.2.1) (kX (fA hf.out.2.2.1 hO ((jC hf.out).2.2.1 hl) ((jC hf.out).2.2.2.1 hl) (by decide) (by decide)) (kX (fA hf.out.2.2.2.1 hO ((jC hf.out).2.2.1 hl) ((jC hf.out).2.2.2.1 hl) (by decide) (by decide)) (kX (by (have ee:l 9=false:=hn 9 rfl);(have F:=hf.out.2.2.2.2.1);rw [ee] at F;rw [show upd l 5 true 9=false from ee];exact fA F hO ((jC hf.out).2.2.1 hl) ((jC hf.out).2.2.2.1 hl) (by decide) (by decide)) (kX (by (have ee:l 10=false:=hn 10 rfl);(have F:=(jC hf.out).2.1);rw [ee] at F;rw [show upd l 5 true 10=false from ee];exact fA F hO ((jC hf.out).2.2.1 hl) ((jC hf.out).2.2.2.1 hl) (by decide) (by decide)) (kX (fun h9=>nU h9 (show upd l 5 true 5=true from rfl)) (kX (fun h9=>nU h9 (show upd l 5 true 5=true from rfl)) (kC (kA (kX (fun _=>⟨rfl,X1,X2,fun j hj=>(F1 j hj).imp id (fun h=>Nat.le_trans hf.out.1.2.2.2.1 h),fun j hj=>(F2 j hj).imp id (fun h=>Nat.le_trans hf.out.1.2.2.2.1 h)⟩) (kX (nU (hn 6 rfl)) (kX (nU (hn 7 rfl)) (kX (nU (hn 8 rfl)) (fun _=>nU (hn 11 rfl))))))))))))))) hf.out)
  ·have e5:=((jC (jD hf.out)).2.1 (hd 5 rfl)).1
   go_simp
   refine hK.out (upd s 29 (.agg (af x.1 (s 1003) (s 1004)))) _ _ (by simp [ae,e5] <;> rfl) (kD (kC (kB (kX (fun _=>rfl) id))) hf.out)
  ·have e5:=((jC (jD hf.out)).2.1 (hd 5 rfl)).1
   go_simp
   refine hK.out (upd s 30 (.agg (aa x.2.1))) _ _ (by simp [ae,e5] <;> rfl) (kD (kC (kB (kA (kX (fun _=>rfl) id)))) hf.out)
  ·have e5:=((jC (jD hf.out)).2.1 (hd 5 rfl)).1
   go_simp
   refine hK.out (upd s 31 (.bool x.2.2)) _ _ (by simp [ae,e5] <;> rfl) (kE (kX (fun _=>rfl) id) hf.out)
  ·have e6:=((jC (jD hf.out)).2.2.1 (hd 6 rfl))
   have e5:=((jC (jD hf.out)).2.1 (hd 5 rfl))
   have X1:=e5.2.1
   have X2:=e5.2.2.1
   clear e5
   have zr:=hf.out.2.2.2.2.1
   rw [hl] at zr
   dsimp only [cond] at zr
   obtain ⟨xa,xp,ea,_⟩:=X1.seg
   obtain ⟨xb,xq,mq,_⟩:=X2.seg
   rw [ea,mq] at e6
   have zn:hp (bY wx (w.heap.size+1+1) (af x.1 (.slice xa x.1.cells.length xp) (.slice xb x.1.words.length xq))) (w.heap.size+1+1)=some (.cells (af x.1 (s 1003) (s 1004)) 31):=by rw [ea,mq];exact fH zr
   have hO:=hf.out.1
   go_simp
   refine hK.out (s) _ _ (by simp [ae,e6,ea,mq] <;> rfl) (kX (oX hO tO) (kX (Nat.le_trans hf.out.2.1 (Nat.le_of_eq aC.symm)) (kX ((aD tO).trans hf.out.2.2.1) (kX ((aD tO).trans hf.out.2.2.2.1) (kX (zn) (kX ((aD tO).trans (jC hf.out).2.1) (kX (fun h9=>nU h9 (show upd l 9 true 5=true from hd 5 rfl)) (kX (fun h9=>nU h9 (show upd l 9 true 5=true from hd 5 rfl)) (kC (kA (kX (fun h=>(let ⟨e,X1,X2,F1,F2⟩:=(jC (jD hf.out)).2.1 h;⟨e,cO X1 zr (by decide),cO X2 zr (by decide),F1,F2⟩)) id)))))))))) hf.out)
  ·have e7:=((jC (jD hf.out)).2.2.2.1 (hd 7 rfl))
   have e5:=((jC (jD hf.out)).2.1 (hd 5 rfl))
   have X1:=e5.2.1
   have X2:=e5.2.2.1
   clear e5
   have zr:=(jC hf.out).2.1
   rw [hl] at zr
   dsimp only [cond] at zr
   have zn:hp (bY wx (w.heap.size+1+1+1) (aa x.2.1)) (w.heap.size+1+1+1)=some (.cells (aa x.2.1) 49):=by exact fH zr
   have hO:=hf.out.1
   go_simp
   refine hK.out (s) _ _ (by simp [ae,e7] <;> rfl) (kX (oX hO tO) (kX (Nat.le_trans hf.out.2.1 (Nat.le_of_eq aC.symm)) (kX ((aD tO).trans hf.out.2.2.1) (kX ((aD tO).trans hf.out.2.2.2.1) (kX ((aD tO).trans hf.out.2.2.2.2.1) (kX (zn) (kX (fun h9=>nU h9 (show upd l 10 true 5=true from hd 5 rfl)) (kX (fun h9=>nU h9 (show upd l 10 true 5=true from hd 5 rfl)) (kC (kA (kX (fun h=>(let ⟨e,X1,X2,F1,F2⟩:=(jC (jD hf.out)).2.1 h;⟨e,cO X1 zr (by decide),cO X2 zr (by decide),F1,F2⟩)) id)))))))))) hf.out)
  ·have e8:=((jE hf.out).1 (hd 8 rfl))
   go_simp
   refine hK.out (upd s 6 (.bool x.2.2)) _ _ (by simp [ae,e8] <;> rfl) (kE (kA (fun _=>fun _=>rfl)) hf.out)
theorem Bt (c:Ch) (h:Ha) (v1 v2:Value) (lo:Nat) (w:World) (h1:ag w lo v1 c.cells) (h2:ai w lo v2 c.words) (hc0:0≤h.cell) (hc1:h.cell<c.cells.length) (hc:aK c=true) (hlo:lo≤w.heap.size) (hs:(h.seen == 0)=true) (hx:h.come≤h.cell) :
  Calls Tryz.prog 263 #[.agg (af c v1 v2),.agg (aa h)] w fun r w'=>cz w w' lo v1 v2 (xH c 4 (dR h 1) { h with pos:=10 }) r:=qI c h v1 v2 lo w h1 h2 hc0 hc1 hc hlo hx (.inl hs)
theorem qJ (c:Ch) (h:Ha) (v1 v2:Value) (lo:Nat) (w:World) (h1:ag w lo v1 c.cells) (h2:ai w lo v2 c.words) (hc0:0≤h.cell) (hc1:h.cell<c.cells.length) (hx:¬ h.come≤h.cell) (PH:(h.seen == 0)=true∨((h.seen == 0)=false∧(h.seen == 1)=true)) :
  cu 263 c h v1 v2 lo w (sH c 8 0 (dR h 2) { h with pos:=10 }):=by
 rcases PH with hs|⟨hs0,hs⟩
 all_goals
  have T0:=fun W a b=>nE c 8 0 (dR h 2) { h with pos:=10 } v1 v2 lo W a b hc0 hc1
  change ∀ W,_→_→Calls _ _ _ _ (fun r w'=>cz W w' lo v1 v2 (sH c 8 0 (dR h 2) { h with pos:=10 }) r) at T0
  have hy:h.cell<h.come:=by omega
  clear hc0 hc1
  generalize sH c 8 0 (dR h 2) { h with pos:=10 }=x at *
  obtain ⟨a1,q1,a2,q2,rfl,rfl,O1,O2,b1,b2⟩:=ql h1 h2
  clear h1 h2
  have T:=Lib.hid T0
  clear T0
  have o1:=O1.out
  have o2:=O2.out
  go_enter Tryz.func263,Tryz.ntmps263
  go_upto_region 10 with fail
  refine bI [[],[],[],[],[2,3],[],[5],[0,1,2,3,4,5,6],qB [],qB [],qB [],qB [8],qB [9],qB [10]] [32,33,34,35,36,37,38,39,40,41,42,6] (fun l s wx=>(ik (Value.slice a1 c.cells.length q1).ownBlock (Value.slice a2 c.words.length q2).ownBlock w wx)∧(w.heap.size+1+1+1+1≤wx.heap.size)∧(hp wx w.heap.size=some (.cells (af c (.slice a1 c.cells.length q1) (.slice a2 c.words.length q2)) 31))∧(hp wx (w.heap.size+1)=some (.cells (aa h) 49))∧(hp wx (w.heap.size+1+1)=some (.cells (cond (l 11) (af x.1 (s 1003) (s 1004)) (af Ch.zero (.slice none 0 0) (.slice none 0 0))) 31))∧(hp wx (w.heap.size+1+1+1)=some (.cells (cond (l 12) (aa x.2.1) (aa Ha.zero)) 49))∧(l 7=false→ag wx lo (.slice a1 c.cells.length q1) c.cells)∧(l 7=false→ai wx lo (.slice a2 c.words.length q2) c.words)∧(l 0=true→s 32=.agg (af c (.slice a1 c.cells.length q1) (.slice a2 c.words.length q2)))∧(l 1=true→s 33=.int .i64 8)∧(l 2=true→s 34=.agg (aa h))∧(l 3=true→s 35=.int .i64 2)∧(l 4=true→s 36=.agg (aa (dR h 2)))∧(l 5=true→s 37=.agg (aa h))∧(l 6=true→s 38=.agg (aa ({ h with pos:=10 })))∧(l 7=true→s 39=.tuple #[.agg (af x.1 (s 1003) (s 1004)),.agg (aa x.2.1),.bool x.2.2]∧ag wx lo (s 1003) x.1.cells∧ai wx lo (s 1004) x.1.words∧dW w (.slice a1 c.cells.length q1) (s 1003)∧dW w (.slice a2 c.words.length q2) (s 1004))∧(l 8=true→s 40=.agg (af x.1 (s 1003) (s 1004)))∧(l 9=true→s 41=.agg (aa x.2.1))∧(l 10=true→s 42=.bool x.2.2)∧(l 13=true→s 6=.bool x.2.2)) (by kernel_rfl) (by kernel_rfl) (by kernel_rfl) (fun s=>by (simp only [fill,fC,List.setIfInBounds_toArray,List.set_cons_zero,List.set_cons_succ];rfl)) (fun s=>⟨dx zB,by simp,by simp [go_sem, *],by simp [go_sem, *],by simp [go_sem, *],by simp [go_sem, *],fun _=>by exact zO o1 o1,fun _=>by exact zO o2 o2,nB,nB,nB,nB,nB,nB,nB,nB,nB,nB,nB,nB⟩) ?_ ?_
  refine ⟨?_,?_,?_,?_,?_,?_,?_,?_,?_,?_,?_,?_,?_,?_,trivial⟩;iterate 14 (intro l s wx hl hd hn hf K hK;rotate_left)
  ·intro l s wx hall hf
   have hO:=hf.1
   have z1:=hf.2.2.2.2.1
   have z2:=(jC hf).2.1
   rw [hall 11 rfl] at z1
   rw [hall 12 rfl] at z2
   dsimp only [cond] at z1 z2
   obtain ⟨_,X1,X2,F1,F2⟩:=((jC (jD hf)).2.2.2.1 (hall 7 rfl))
   have ec:=((jE hf).2.2.2 (hall 13 rfl))
   simp only [ec]
   clear ec hf hall
   go_wp2
   exact bodyPost_ret (iV Tryz.results263 rfl (az x.1 _ _ z1) rfl (aj x.2.1 z2)) rfl ⟨⟨_,_,rfl,X1,X2,F1,F2⟩,hO⟩
  ·have zc:=hf.out.2.2.1
   go_simp
   refine hK.out (upd s 32 (.agg (af c (.slice a1 c.cells.length q1) (.slice a2 c.words.length q2)))) _ _ (by simp [ae] <;> rfl) (kD (kX (fun _=>rfl) id) hf.out)
  ·go_simp
   refine hK.out (upd s 33 (.int .i64 8)) _ _ (by simp [ae] <;> rfl) (kD (kA (kX (fun _=>rfl) id)) hf.out)
  ·have zh:=hf.out.2.2.2.1
   go_simp
   refine hK.out (upd s 34 (.agg (aa h))) _ _ (by simp [ae] <;> rfl) (kD (kB (kX (fun _=>rfl) id)) hf.out)
  ·go_simp
   refine hK.out (upd s 35 (.int .i64 2)) _ _ (by simp [ae] <;> rfl) (kD (kB (kA (kX (fun _=>rfl) id))) hf.out)
  ·have e2:=((jD hf.out).2.2.1 (hd 2 rfl))
   have e3:=((jD hf.out).2.2.2.1 (hd 3 rfl))
   go_simp
   go_at_call 264
   refine (mf h 2 _).mono ?_
   rintro _ wy ⟨rfl,hE⟩
   refine hK.out (upd s 36 (.agg (aa (dR h 2)))) _ _ (by simp [ae,e2,e3] <;> rfl) (kX (fu hf.out.1 (dx hE)) (kX (Nat.le_trans hf.out.2.1 (Below.size hE)) (kX (dS hf.out.2.2.1 hE) (kX (dS hf.out.2.2.2.1 hE) (kX (dS hf.out.2.2.2.2.1 hE) (kX (dS (jC hf.out).2.1 hE) (kX (fun h9=>own_below ((jC hf.out).2.2.1 h9) hE) (kX (fun h9=>own_below ((jC hf.out).2.2.2.1 h9) hE) (kC (kX (fun _=>rfl) (kB (kX (nU (hn 7 rfl)) (kX (nU (hn 8 rfl)) (kX (nU (hn 9 rfl)) (kX (nU (hn 10 rfl)) (fun _=>nU (hn 13 rfl)))))))))))))))) hf.out)
  ·have zh:=hf.out.2.2.2.1
   go_simp
   refine hK.out (upd s 37 (.agg (aa h))) _ _ (by simp [ae] <;> rfl) (kD (kC (kA (kX (fun _=>rfl) id))) hf.out)
  ·have e5:=((jC (jD hf.out)).2.1 (hd 5 rfl))
   go_simp
   go_at_call 247
   refine (cZ h 10 _).mono ?_
   rintro _ wy ⟨rfl,hE⟩
   refine hK.out (upd s 38 (.agg (aa ({ h with pos:=10 })))) _ _ (by simp [ae,e5] <;> rfl) (kX (fu hf.out.1 (dx hE)) (kX (Nat.le_trans hf.out.2.1 (Below.size hE)) (kX (dS hf.out.2.2.1 hE) (kX (dS hf.out.2.2.2.1 hE) (kX (dS hf.out.2.2.2.2.1 hE) (kX (dS (jC hf.out).2.1 hE) (kX (fun h9=>own_below ((jC hf.out).2.2.1 h9) hE) (kX (fun h9=>own_below ((jC hf.out).2.2.2.1 h9) hE) (kC (kB (kX (fun _=>rfl) (kX (nU (hn 7 rfl)) (kX (nU (hn 8 rfl)) (kX (nU (hn 9 rfl)) (kX (nU (hn 10 rfl)) (fun _=>nU (hn 13 rfl)))))))))))))))) hf.out)
  ·have e0:=((jD hf.out).1 (hd 0 rfl))
   have e1:=((jD hf.out).2.1 (hd 1 rfl))
   have e4:=((jC (jD hf.out)).1 (hd 4 rfl))
   have e6:=((jC (jD hf.out)).2.2.1 (hd 6 rfl))
   go_simp
   go_at_call 265
   refine (T.out _ ((jC hf.out).2.2.1 hl) ((jC hf.out).2.2.2.1 hl)).mono ?_
   rintro _ wy ⟨⟨y1,y2,rfl,X1,X2,F1,F2⟩,hO⟩
   refine hK.out (upd (upd (upd s 1003 (y1)) 1004 (y2)) 39 (.tuple #[.agg (af x.1 y1 y2),.agg (aa x.2.1),.bool x.2.2])) _ _ (by simp [ae,e0,e1,e4,e6] <;> rfl) (kX (fu hf.out.1 hO) (kX (Nat.le_trans hf.out.2.1 hO.2.2.2.1) (kX (fA hf.out.2.2.1 hO ((jC hf.out).2.2.1 hl) ((jC hf.out).2.2.2.1 hl) (by decide) (by decide)) (kX (fA hf.out.2.2.2.1 hO ((jC hf.out).2.2.1 hl) ((jC hf.out).2.2.2.1 hl) (by decide) (by decide)) (kX (by (have ee:l 11=false:=hn 11 rfl);(have F:=hf.out.2.2.2.2.1);rw [ee] at F;rw [show upd l 7 true 11=false from ee];exact fA F hO ((jC hf.out).2.2.1 hl) ((jC hf.out).2.2.2.1 hl) (by decide) (by decide)) (kX (by (have ee:l 12=false:=hn 12 rfl);(have F:=(jC hf.out).2.1);rw [ee] at F;rw [show upd l 7 true 12=false from ee];exact fA F hO ((jC hf.out).2.2.1 hl) ((jC hf.out).2.2.2.1 hl) (by decide) (by decide)) (kX (fun h9=>nU h9 (show upd l 7 true 7=true from rfl)) (kX (fun h9=>nU h9 (show upd l 7 true 7=true from rfl)) (kC (kB (kA (kX (fun _=>⟨rfl,X1,X2,fun j hj=>(F1 j hj).imp id (fun h=>Nat.le_trans hf.out.1.2.2.2.1 h),fun j hj=>(F2 j hj).imp id (fun h=>Nat.le_trans hf.out.1.2.2.2.1 h)⟩) (kX (nU (hn 8 rfl)) (kX (nU (hn 9 rfl)) (kX (nU (hn 10 rfl)) (fun _=>nU (hn 13 rfl)))))))))))))))) hf.out)
  ·have e7:=((jC (jD hf.out)).2.2.2.1 (hd 7 rfl)).1
   go_simp
   refine hK.out (upd s 40 (.agg (af x.1 (s 1003) (s 1004)))) _ _ (by simp [ae,e7] <;> rfl) (kE (kX (fun _=>rfl) id) hf.out)
  ·have e7:=((jC (jD hf.out)).2.2.2.1 (hd 7 rfl)).1
   go_simp
   refine hK.out (upd s 41 (.agg (aa x.2.1))) _ _ (by simp [ae,e7] <;> rfl) (kE (kA (kX (fun _=>rfl) id)) hf.out)
  ·have e7:=((jC (jD hf.out)).2.2.2.1 (hd 7 rfl)).1
   go_simp
   refine hK.out (upd s 42 (.bool x.2.2)) _ _ (by simp [ae,e7] <;> rfl) (kE (kB (kX (fun _=>rfl) id)) hf.out)
  ·have e8:=((jE hf.out).1 (hd 8 rfl))
   have e7:=((jC (jD hf.out)).2.2.2.1 (hd 7 rfl))
   have X1:=e7.2.1
   have X2:=e7.2.2.1
   clear e7
   have zr:=hf.out.2.2.2.2.1
   rw [hl] at zr
   dsimp only [cond] at zr
   obtain ⟨xa,xp,ea,_⟩:=X1.seg
   obtain ⟨xb,xq,mq,_⟩:=X2.seg
   rw [ea,mq] at e8
   have zn:hp (bY wx (w.heap.size+1+1) (af x.1 (.slice xa x.1.cells.length xp) (.slice xb x.1.words.length xq))) (w.heap.size+1+1)=some (.cells (af x.1 (s 1003) (s 1004)) 31):=by rw [ea,mq];exact fH zr
   have hO:=hf.out.1
   go_simp
   refine hK.out (s) _ _ (by simp [ae,e8,ea,mq] <;> rfl) (kX (oX hO tO) (kX (Nat.le_trans hf.out.2.1 (Nat.le_of_eq aC.symm)) (kX ((aD tO).trans hf.out.2.2.1) (kX ((aD tO).trans hf.out.2.2.2.1) (kX (zn) (kX ((aD tO).trans (jC hf.out).2.1) (kX (fun h9=>nU h9 (show upd l 11 true 7=true from hd 7 rfl)) (kX (fun h9=>nU h9 (show upd l 11 true 7=true from hd 7 rfl)) (kC (kB (kA (kX (fun h=>(let ⟨e,X1,X2,F1,F2⟩:=(jC (jD hf.out)).2.2.2.1 h;⟨e,cO X1 zr (by decide),cO X2 zr (by decide),F1,F2⟩)) id))))))))))) hf.out)
  ·have e9:=((jE hf.out).2.1 (hd 9 rfl))
   have e7:=((jC (jD hf.out)).2.2.2.1 (hd 7 rfl))
   have X1:=e7.2.1
   have X2:=e7.2.2.1
   clear e7
   have zr:=(jC hf.out).2.1
   rw [hl] at zr
   dsimp only [cond] at zr
   have zn:hp (bY wx (w.heap.size+1+1+1) (aa x.2.1)) (w.heap.size+1+1+1)=some (.cells (aa x.2.1) 49):=by exact fH zr
   have hO:=hf.out.1
   go_simp
   refine hK.out (s) _ _ (by simp [ae,e9] <;> rfl) (kX (oX hO tO) (kX (Nat.le_trans hf.out.2.1 (Nat.le_of_eq aC.symm)) (kX ((aD tO).trans hf.out.2.2.1) (kX ((aD tO).trans hf.out.2.2.2.1) (kX ((aD tO).trans hf.out.2.2.2.2.1) (kX (zn) (kX (fun h9=>nU h9 (show upd l 12 true 7=true from hd 7 rfl)) (kX (fun h9=>nU h9 (show upd l 12 true 7=true from hd 7 rfl)) (kC (kB (kA (kX (fun h=>(let ⟨e,X1,X2,F1,F2⟩:=(jC (jD hf.out)).2.2.2.1 h;⟨e,cO X1 zr (by decide),cO X2 zr (by decide),F1,F2⟩)) id))))))))))) hf.out)
  ·have e10:=((jE hf.out).2.2.1 (hd 10 rfl))
   go_simp
   refine hK.out (upd s 6 (.bool x.2.2)) _ _ (by simp [ae,e10] <;> rfl) (kE (kB (kA (fun _=>fun _=>rfl))) hf.out)
theorem Bu (c:Ch) (h:Ha) (v1 v2:Value) (lo:Nat) (w:World) (h1:ag w lo v1 c.cells) (h2:ai w lo v2 c.words) (hc0:0≤h.cell) (hc1:h.cell<c.cells.length) (hs:(h.seen == 0)=true) (hx:¬ h.come≤h.cell) :
  Calls Tryz.prog 263 #[.agg (af c v1 v2),.agg (aa h)] w fun r w'=>cz w w' lo v1 v2 (sH c 8 0 (dR h 2) { h with pos:=10 }) r:=qJ c h v1 v2 lo w h1 h2 hc0 hc1 hx (.inl hs)
theorem Bv (c:Ch) (h:Ha) (v1 v2:Value) (lo:Nat) (w:World) (h1:ag w lo v1 c.cells) (h2:ai w lo v2 c.words) (hc0:0≤h.cell) (hc1:h.cell<c.cells.length) (hc:aK c=true) (hlo:lo≤w.heap.size) (hs0:(h.seen == 0)=false) (hs:(h.seen == 1)=true) (hx:h.come≤h.cell) :
  Calls Tryz.prog 263 #[.agg (af c v1 v2),.agg (aa h)] w fun r w'=>cz w w' lo v1 v2 (xH c 4 (dR h 1) { h with pos:=10 }) r:=qI c h v1 v2 lo w h1 h2 hc0 hc1 hc hlo hx (.inr ⟨hs0,hs⟩)
theorem Bz (c:Ch) (h:Ha) (v1 v2:Value) (lo:Nat) (w:World) (h1:ag w lo v1 c.cells) (h2:ai w lo v2 c.words) (hc0:0≤h.cell) (hc1:h.cell<c.cells.length) (hs0:(h.seen == 0)=false) (hs:(h.seen == 1)=true) (hx:¬ h.come≤h.cell) :
  Calls Tryz.prog 263 #[.agg (af c v1 v2),.agg (aa h)] w fun r w'=>cz w w' lo v1 v2 (sH c 8 0 (dR h 2) { h with pos:=10 }) r:=qJ c h v1 v2 lo w h1 h2 hc0 hc1 hx (.inr ⟨hs0,hs⟩)
theorem DW (c:Ch) (h:Ha) (v1 v2:Value) (lo:Nat) (w:World) (h1:ag w lo v1 c.cells) (h2:ai w lo v2 c.words) (hc0:0≤h.cell) (hc1:h.cell<c.cells.length) (hs0:(h.seen == 0)=false) (hs1:(h.seen == 1)=false) (hs:(h.seen == 2)=true) :
  cu 263 c h v1 v2 lo w (sH c 7 0 (dR h 0) { h with pos:=10 }):=by
 have T0:=fun W a b=>nE c 7 0 (dR h 0) { h with pos:=10 } v1 v2 lo W a b hc0 hc1
 change ∀ W,_→_→Calls _ _ _ _ (fun r w'=>cz W w' lo v1 v2 (sH c 7 0 (dR h 0) { h with pos:=10 }) r) at T0
 clear hc0 hc1
 generalize sH c 7 0 (dR h 0) { h with pos:=10 }=x at *
 obtain ⟨a1,q1,a2,q2,rfl,rfl,O1,O2,b1,b2⟩:=ql h1 h2
 clear h1 h2
 have T:=Lib.hid T0
 clear T0
 have o1:=O1.out
 have o2:=O2.out
 go_enter Tryz.func263,Tryz.ntmps263
 go_upto_region 10 with fail
 refine bI [[],[],[],[],[2,3],[],[5],[0,1,2,3,4,5,6],qB [],qB [],qB [],qB [8],qB [9],qB [10]] [32,33,34,35,36,37,38,39,40,41,42,6] (fun l s wx=>(ik (Value.slice a1 c.cells.length q1).ownBlock (Value.slice a2 c.words.length q2).ownBlock w wx)∧(w.heap.size+1+1+1+1≤wx.heap.size)∧(hp wx w.heap.size=some (.cells (af c (.slice a1 c.cells.length q1) (.slice a2 c.words.length q2)) 31))∧(hp wx (w.heap.size+1)=some (.cells (aa h) 49))∧(hp wx (w.heap.size+1+1)=some (.cells (cond (l 11) (af x.1 (s 1003) (s 1004)) (af Ch.zero (.slice none 0 0) (.slice none 0 0))) 31))∧(hp wx (w.heap.size+1+1+1)=some (.cells (cond (l 12) (aa x.2.1) (aa Ha.zero)) 49))∧(l 7=false→ag wx lo (.slice a1 c.cells.length q1) c.cells)∧(l 7=false→ai wx lo (.slice a2 c.words.length q2) c.words)∧(l 0=true→s 32=.agg (af c (.slice a1 c.cells.length q1) (.slice a2 c.words.length q2)))∧(l 1=true→s 33=.int .i64 7)∧(l 2=true→s 34=.agg (aa h))∧(l 3=true→s 35=.int .i64 0)∧(l 4=true→s 36=.agg (aa (dR h 0)))∧(l 5=true→s 37=.agg (aa h))∧(l 6=true→s 38=.agg (aa ({ h with pos:=10 })))∧(l 7=true→s 39=.tuple #[.agg (af x.1 (s 1003) (s 1004)),.agg (aa x.2.1),.bool x.2.2]∧ag wx lo (s 1003) x.1.cells∧ai wx lo (s 1004) x.1.words∧dW w (.slice a1 c.cells.length q1) (s 1003)∧dW w (.slice a2 c.words.length q2) (s 1004))∧(l 8=true→s 40=.agg (af x.1 (s 1003) (s 1004)))∧(l 9=true→s 41=.agg (aa x.2.1))∧(l 10=true→s 42=.bool x.2.2)∧(l 13=true→s 6=.bool x.2.2)) (by kernel_rfl) (by kernel_rfl) (by kernel_rfl) (fun s=>by (simp only [fill,fC,List.setIfInBounds_toArray,List.set_cons_zero,List.set_cons_succ];rfl)) (fun s=>⟨dx zB,by simp,by simp [go_sem, *],by simp [go_sem, *],by simp [go_sem, *],by simp [go_sem, *],fun _=>by exact zO o1 o1,fun _=>by exact zO o2 o2,nB,nB,nB,nB,nB,nB,nB,nB,nB,nB,nB,nB⟩) ?_ ?_
 refine ⟨?_,?_,?_,?_,?_,?_,?_,?_,?_,?_,?_,?_,?_,?_,trivial⟩;iterate 14 (intro l s wx hl hd hn hf K hK;rotate_left)
 ·intro l s wx hall hf
  have hO:=hf.1
  have z1:=hf.2.2.2.2.1
  have z2:=(jC hf).2.1
  rw [hall 11 rfl] at z1
  rw [hall 12 rfl] at z2
  dsimp only [cond] at z1 z2
  obtain ⟨_,X1,X2,F1,F2⟩:=((jC (jD hf)).2.2.2.1 (hall 7 rfl))
  have ec:=((jE hf).2.2.2 (hall 13 rfl))
  simp only [ec]
  clear ec hf hall
  go_wp2
  exact bodyPost_ret (iV Tryz.results263 rfl (az x.1 _ _ z1) rfl (aj x.2.1 z2)) rfl ⟨⟨_,_,rfl,X1,X2,F1,F2⟩,hO⟩
 ·have zc:=hf.out.2.2.1
  go_simp
  refine hK.out (upd s 32 (.agg (af c (.slice a1 c.cells.length q1) (.slice a2 c.words.length q2)))) _ _ (by simp [ae] <;> rfl) (kD (kX (fun _=>rfl) id) hf.out)
 ·go_simp
  refine hK.out (upd s 33 (.int .i64 7)) _ _ (by simp [ae] <;> rfl) (kD (kA (kX (fun _=>rfl) id)) hf.out)
 ·have zh:=hf.out.2.2.2.1
  go_simp
  refine hK.out (upd s 34 (.agg (aa h))) _ _ (by simp [ae] <;> rfl) (kD (kB (kX (fun _=>rfl) id)) hf.out)
 ·go_simp
  refine hK.out (upd s 35 (.int .i64 0)) _ _ (by simp [ae] <;> rfl) (kD (kB (kA (kX (fun _=>rfl) id))) hf.out)
 ·have e2:=((jD hf.out).2.2.1 (hd 2 rfl))
  have e3:=((jD hf.out).2.2.2.1 (hd 3 rfl))
  go_simp
  go_at_call 264
  refine (mf h 0 _).mono ?_
  rintro _ wy ⟨rfl,hE⟩
  refine hK.out (upd s 36 (.agg (aa (dR h 0)))) _ _ (by simp [ae,e2,e3] <;> rfl) (kX (fu hf.out.1 (dx hE)) (kX (Nat.le_trans hf.out.2.1 (Below.size hE)) (kX (dS hf.out.2.2.1 hE) (kX (dS hf.out.2.2.2.1 hE) (kX (dS hf.out.2.2.2.2.1 hE) (kX (dS (jC hf.out).2.1 hE) (kX (fun h9=>own_below ((jC hf.out).2.2.1 h9) hE) (kX (fun h9=>own_below ((jC hf.out).2.2.2.1 h9) hE) (kC (kX (fun _=>rfl) (kB (kX (nU (hn 7 rfl)) (kX (nU (hn 8 rfl)) (kX (nU (hn 9 rfl)) (kX (nU (hn 10 rfl)) (fun _=>nU (hn 13 rfl)))))))))))))))) hf.out)
 ·have zh:=hf.out.2.2.2.1
  go_simp
  refine hK.out (upd s 37 (.agg (aa h))) _ _ (by simp [ae] <;> rfl) (kD (kC (kA (kX (fun _=>rfl) id))) hf.out)
 ·have e5:=((jC (jD hf.out)).2.1 (hd 5 rfl))
  go_simp
  go_at_call 247
  refine (cZ h 10 _).mono ?_
  rintro _ wy ⟨rfl,hE⟩
  refine hK.out (upd s 38 (.agg (aa ({ h with pos:=10 })))) _ _ (by simp [ae,e5] <;> rfl) (kX (fu hf.out.1 (dx hE)) (kX (Nat.le_trans hf.out.2.1 (Below.size hE)) (kX (dS hf.out.2.2.1 hE) (kX (dS hf.out.2.2.2.1 hE) (kX (dS hf.out.2.2.2.2.1 hE) (kX (dS (jC hf.out).2.1 hE) (kX (fun h9=>own_below ((jC hf.out).2.2.1 h9) hE) (kX (fun h9=>own_below ((jC hf.out).2.2.2.1 h9) hE) (kC (kB (kX (fun _=>rfl) (kX (nU (hn 7 rfl)) (kX (nU (hn 8 rfl)) (kX (nU (hn 9 rfl)) (kX (nU (hn 10 rfl)) (fun _=>nU (hn 13 rfl)))))))))))))))) hf.out)
 ·have e0:=((jD hf.out).1 (hd 0 rfl))
  have e1:=((jD hf.out).2.1 (hd 1 rfl))
  have e4:=((jC (jD hf.out)).1 (hd 4 rfl))
  have e6:=((jC (jD hf.out)).2.2.1 (hd 6 rfl))
  go_simp
  go_at_call 265
  refine (T.out _ ((jC hf.out).2.2.1 hl) ((jC hf.out).2.2.2.1 hl)).mono ?_
  rintro _ wy ⟨⟨y1,y2,rfl,X1,X2,F1,F2⟩,hO⟩
  refine hK.out (upd (upd (upd s 1003 (y1)) 1004 (y2)) 39 (.tuple #[.agg (af x.1 y1 y2),.agg (aa x.2.1),.bool x.2.2])) _ _ (by simp [ae,e0,e1,e4,e6] <;> rfl) (kX (fu hf.out.1 hO) (kX (Nat.le_trans hf.out.2.1 hO.2.2.2.1) (kX (fA hf.out.2.2.1 hO ((jC hf.out).2.2.1 hl) ((jC hf.out).2.2.2.1 hl) (by decide) (by decide)) (kX (fA hf.out.2.2.2.1 hO ((jC hf.out).2.2.1 hl) ((jC hf.out).2.2.2.1 hl) (by decide) (by decide)) (kX (by (have ee:l 11=false:=hn 11 rfl);(have F:=hf.out.2.2.2.2.1);rw [ee] at F;rw [show upd l 7 true 11=false from ee];exact fA F hO ((jC hf.out).2.2.1 hl) ((jC hf.out).2.2.2.1 hl) (by decide) (by decide)) (kX (by (have ee:l 12=false:=hn 12 rfl);(have F:=(jC hf.out).2.1);rw [ee] at F;rw [show upd l 7 true 12=false from ee];exact fA F hO ((jC hf.out).2.2.1 hl) ((jC hf.out).2.2.2.1 hl) (by decide) (by decide)) (kX (fun h9=>nU h9 (show upd l 7 true 7=true from rfl)) (kX (fun h9=>nU h9 (show upd l 7 true 7=true from rfl)) (kC (kB (kA (kX (fun _=>⟨rfl,X1,X2,fun j hj=>(F1 j hj).imp id (fun h=>Nat.le_trans hf.out.1.2.2.2.1 h),fun j hj=>(F2 j hj).imp id (fun h=>Nat.le_trans hf.out.1.2.2.2.1 h)⟩) (kX (nU (hn 8 rfl)) (kX (nU (hn 9 rfl)) (kX (nU (hn 10 rfl)) (fun _=>nU (hn 13 rfl)))))))))))))))) hf.out)
 ·have e7:=((jC (jD hf.out)).2.2.2.1 (hd 7 rfl)).1
  go_simp
  refine hK.out (upd s 40 (.agg (af x.1 (s 1003) (s 1004)))) _ _ (by simp [ae,e7] <;> rfl) (kE (kX (fun _=>rfl) id) hf.out)
 ·have e7:=((jC (jD hf.out)).2.2.2.1 (hd 7 rfl)).1
  go_simp
  refine hK.out (upd s 41 (.agg (aa x.2.1))) _ _ (by simp [ae,e7] <;> rfl) (kE (kA (kX (fun _=>rfl) id)) hf.out)
 ·have e7:=((jC (jD hf.out)).2.2.2.1 (hd 7 rfl)).1
  go_simp
  refine hK.out (upd s 42 (.bool x.2.2)) _ _ (by simp [ae,e7] <;> rfl) (kE (kB (kX (fun _=>rfl) id)) hf.out)
 ·have e8:=((jE hf.out).1 (hd 8 rfl))
  have e7:=((jC (jD hf.out)).2.2.2.1 (hd 7 rfl))
  have X1:=e7.2.1
  have X2:=e7.2.2.1
  clear e7
  have zr:=hf.out.2.2.2.2.1
  rw [hl] at zr
  dsimp only [cond] at zr
  obtain ⟨xa,xp,ea,_⟩:=X1.seg
  obtain ⟨xb,xq,mq,_⟩:=X2.seg
  rw [ea,mq] at e8
  have zn:hp (bY wx (w.heap.size+1+1) (af x.1 (.slice xa x.1.cells.length xp) (.slice xb x.1.words.length xq))) (w.heap.size+1+1)=some (.cells (af x.1 (s 1003) (s 1004)) 31):=by rw [ea,mq];exact fH zr
  have hO:=hf.out.1
  go_simp
  refine hK.out (s) _ _ (by simp [ae,e8,ea,mq] <;> rfl) (kX (oX hO tO) (kX (Nat.le_trans hf.out.2.1 (Nat.le_of_eq aC.symm)) (kX ((aD tO).trans hf.out.2.2.1) (kX ((aD tO).trans hf.out.2.2.2.1) (kX (zn) (kX ((aD tO).trans (jC hf.out).2.1) (kX (fun h9=>nU h9 (show upd l 11 true 7=true from hd 7 rfl)) (kX (fun h9=>nU h9 (show upd l 11 true 7=true from hd 7 rfl)) (kC (kB (kA (kX (fun h=>(let ⟨e,X1,X2,F1,F2⟩:=(jC (jD hf.out)).2.2.2.1 h;⟨e,cO X1 zr (by decide),cO X2 zr (by decide),F1,F2⟩)) id))))))))))) hf.out)
 ·have e9:=((jE hf.out).2.1 (hd 9 rfl))
  have e7:=((jC (jD hf.out)).2.2.2.1 (hd 7 rfl))
  have X1:=e7.2.1
  have X2:=e7.2.2.1
  clear e7
  have zr:=(jC hf.out).2.1
  rw [hl] at zr
  dsimp only [cond] at zr
  have zn:hp (bY wx (w.heap.size+1+1+1) (aa x.2.1)) (w.heap.size+1+1+1)=some (.cells (aa x.2.1) 49):=by exact fH zr
  have hO:=hf.out.1
  go_simp
  refine hK.out (s) _ _ (by simp [ae,e9] <;> rfl) (kX (oX hO tO) (kX (Nat.le_trans hf.out.2.1 (Nat.le_of_eq aC.symm)) (kX ((aD tO).trans hf.out.2.2.1) (kX ((aD tO).trans hf.out.2.2.2.1) (kX ((aD tO).trans hf.out.2.2.2.2.1) (kX (zn) (kX (fun h9=>nU h9 (show upd l 12 true 7=true from hd 7 rfl)) (kX (fun h9=>nU h9 (show upd l 12 true 7=true from hd 7 rfl)) (kC (kB (kA (kX (fun h=>(let ⟨e,X1,X2,F1,F2⟩:=(jC (jD hf.out)).2.2.2.1 h;⟨e,cO X1 zr (by decide),cO X2 zr (by decide),F1,F2⟩)) id))))))))))) hf.out)
 ·have e10:=((jE hf.out).2.2.1 (hd 10 rfl))
  go_simp
  refine hK.out (upd s 6 (.bool x.2.2)) _ _ (by simp [ae,e10] <;> rfl) (kE (kB (kA (fun _=>fun _=>rfl))) hf.out)
theorem DX (c:Ch) (h:Ha) (v1 v2:Value) (lo:Nat) (w:World) (h1:ag w lo v1 c.cells) (h2:ai w lo v2 c.words) (hc0:0≤h.cell) (hc1:h.cell<c.cells.length) (hs0:(h.seen == 0)=false) (hs1:(h.seen == 1)=false) (hs2:(h.seen == 2)=false) (hs:(h.seen == 3)=true) :
  cu 263 c h v1 v2 lo w (sH c 5 (cellAt c h.cell).t { h with pos:=13 } { h with pos:=10 }):=by
 have T0:=fun W a b=>nE c 5 (cellAt c h.cell).t { h with pos:=13 } { h with pos:=10 } v1 v2 lo W a b hc0 hc1
 change ∀ W,_→_→Calls _ _ _ _ (fun r w'=>cz W w' lo v1 v2 (sH c 5 (cellAt c h.cell).t { h with pos:=13 } { h with pos:=10 }) r) at T0
 generalize VI:sH c 5 (cellAt c h.cell).t { h with pos:=13 } { h with pos:=10 }=x at *
 obtain ⟨i,hci⟩:∃ i:Nat,h.cell=(i:Int):=⟨h.cell.toNat,by omega⟩
 have hi:i<c.cells.length:=by omega
 have hi0:(0:Int)≤(i:Int):=by omega
 have hi1:(i:Int)<(c.cells.length:Int):=by omega
 have hne:=h1.ne h2
 obtain ⟨a2,q2,rfl,_⟩:=h2.seg
 obtain ⟨g,q1,rfl,hlo1,hlt,hcell,hfr⟩:=h1.open1 hi
 have O1:=Lib.hid h1
 have O2:=Lib.hid h2
 have jI:g<w.heap.size+1:=by omega
 have jJ:g<w.heap.size+1+1:=by omega
 have jK:g<w.heap.size+1+1+1:=by omega
 have vH:g≠w.heap.size:=by omega
 have vI:g≠w.heap.size+1:=by omega
 have vJ:g≠w.heap.size+1+1:=by omega
 have vK:g≠w.heap.size+1+1+1:=by omega
 have xC:w.heap.size≠g:=by omega
 have xD:w.heap.size+1≠g:=by omega
 have xE:w.heap.size+1+1≠g:=by omega
 have xG:w.heap.size+1+1+1≠g:=by omega
 have hx:Hid (cellAt c h.cell=c.cells.getD i ⟨0,0,0⟩):=by simp [cellAt,Hid,hci]
 have c0:=hcell 0 tO
 have c1:=hcell 1 tO
 have c2:=hcell 2 tO
 simp only [C3.val,Nat.add_zero] at c0 c1 c2
 have ex:=hx.out
 rw [ex] at T0
 clear VI hx ex hcell h1 h2
 generalize c.cells.getD i ⟨0,0,0⟩=x0 at *
 obtain ⟨ss,e,t⟩:=x0
 simp only at T0 c0 c1 c2
 have T:=Lib.hid T0
 clear T0
 have o1:=O1.out
 have o2:=O2.out
 have NI:=Lib.hid hci
 clear hci hc0 hc1
 go_enter Tryz.func263,Tryz.ntmps263
 go_upto_region 11 with fail
 refine bI [[],[],[1],[],[3],[1,2,3,4],[1,2,3,4,5],[1,2,3,4,5,6],[],[8],[],[10],qB [8,9,10,11],qB [8,9,10,11,12],qB [8,9,10,11,12],qB [8,9,10,11,12],qB [8,9,10,11,12,13],qB [8,9,10,11,12,14],qB [8,9,10,11,12,15]] [43,44,45,46,47,48,49,50,51,52,53,54,55,56,57,58,6] (fun l s wx=>(ik (Value.slice (some ⟨g,0,none⟩) c.cells.length q1).ownBlock (Value.slice a2 c.words.length q2).ownBlock w wx)∧(w.heap.size+1+1+1+1≤wx.heap.size)∧(hp wx w.heap.size=some (.cells (af c (.slice (some ⟨g,0,none⟩) c.cells.length q1) (.slice a2 c.words.length q2)) 31))∧(hp wx (w.heap.size+1)=some (.cells (aa h) 49))∧(hp wx (w.heap.size+1+1)=some (.cells (cond (l 16) (af x.1 (s 1003) (s 1004)) (af Ch.zero (.slice none 0 0) (.slice none 0 0))) 31))∧(hp wx (w.heap.size+1+1+1)=some (.cells (cond (l 17) (aa x.2.1) (aa Ha.zero)) 49))∧(l 12=false→ag wx lo (.slice (some ⟨g,0,none⟩) c.cells.length q1) c.cells)∧(l 12=false→ai wx lo (.slice a2 c.words.length q2) c.words)∧(l 12=false→Below w.heap.size w wx)∧(l 0=true→s 43=.agg (af c (.slice (some ⟨g,0,none⟩) c.cells.length q1) (.slice a2 c.words.length q2)))∧(l 1=true→s 44=.pointer (some ⟨w.heap.size,4,none⟩))∧(l 2=true→s 45=.slice (some ⟨g,0,none⟩) c.cells.length q1)∧(l 3=true→s 46=.pointer (some ⟨w.heap.size+1,3,none⟩))∧(l 4=true→s 47=.int .i64 i)∧(l 5=true→s 48=.pointer (some ⟨g,i*3,none⟩))∧(l 6=true→s 49=.pointer (some ⟨g,i*3+2,none⟩))∧(l 7=true→s 50=.int .i64 t)∧(l 8=true→s 51=.agg (aa h))∧(l 9=true→s 52=.agg (aa ({ h with pos:=13 })))∧(l 10=true→s 53=.agg (aa h))∧(l 11=true→s 54=.agg (aa ({ h with pos:=10 })))∧(l 12=true→s 55=.tuple #[.agg (af x.1 (s 1003) (s 1004)),.agg (aa x.2.1),.bool x.2.2]∧ag wx lo (s 1003) x.1.cells∧ai wx lo (s 1004) x.1.words∧dW w (.slice (some ⟨g,0,none⟩) c.cells.length q1) (s 1003)∧dW w (.slice a2 c.words.length q2) (s 1004))∧(l 13=true→s 56=.agg (af x.1 (s 1003) (s 1004)))∧(l 14=true→s 57=.agg (aa x.2.1))∧(l 15=true→s 58=.bool x.2.2)∧(l 18=true→s 6=.bool x.2.2)) (by kernel_rfl) (by kernel_rfl) (by kernel_rfl) (fun s=>by (simp only [fill,fC,List.setIfInBounds_toArray,List.set_cons_zero,List.set_cons_succ];rfl)) (fun s=>⟨dx zB,by simp,by simp [go_sem, *],by simp [go_sem, *],by simp [go_sem, *],by simp [go_sem, *],fun _=>by exact zO o1 o1,fun _=>by exact zO o2 o2,fun _=>by exact zB,nB,nB,nB,nB,nB,nB,nB,nB,nB,nB,nB,nB,nB,nB,nB,nB,nB⟩) ?_ ?_
 refine ⟨?_,?_,?_,?_,?_,?_,?_,?_,?_,?_,?_,?_,?_,?_,?_,?_,?_,?_,?_,trivial⟩;iterate 19 (intro l s wx hl hd hn hf K hK;rotate_left)
 ·intro l s wx hall hf
  have hO:=hf.1
  have z1:=hf.2.2.2.2.1
  have z2:=(jC hf).2.1
  rw [hall 16 rfl] at z1
  rw [hall 17 rfl] at z2
  dsimp only [cond] at z1 z2
  obtain ⟨_,X1,X2,F1,F2⟩:=((jC (jE hf)).2.1 (hall 12 rfl))
  have ec:=((jD (jE hf)).2 (hall 18 rfl))
  simp only [ec]
  clear ec hf hall
  go_wp2
  exact bodyPost_ret (iV Tryz.results263 rfl (az x.1 _ _ z1) rfl (aj x.2.1 z2)) rfl ⟨⟨_,_,rfl,X1,X2,F1,F2⟩,hO⟩
 ·have zc:=hf.out.2.2.1
  go_simp
  refine hK.out (upd s 43 (.agg (af c (.slice (some ⟨g,0,none⟩) c.cells.length q1) (.slice a2 c.words.length q2)))) _ _ (by simp [ae] <;> rfl) (kD (kA (kX (fun _=>rfl) id)) hf.out)
 ·go_simp
  refine hK.out (upd s 44 (.pointer (some ⟨w.heap.size,4,none⟩))) _ _ (by simp [ae] <;> rfl) (kD (kB (kX (fun _=>rfl) id)) hf.out)
 ·have e1:=((jD hf.out).2.2.1 (hd 1 rfl))
  have zc:=hf.out.2.2.1
  have q:=(bO zc).1 4
  go_simp
  refine hK.out (upd s 45 (.slice (some ⟨g,0,none⟩) c.cells.length q1)) _ _ (by simp [ae,e1] <;> rfl) (kD (kB (kA (kX (fun _=>rfl) id))) hf.out)
 ·go_simp
  refine hK.out (upd s 46 (.pointer (some ⟨w.heap.size+1,3,none⟩))) _ _ (by simp [ae] <;> rfl) (kD (kC (kX (fun _=>rfl) id)) hf.out)
 ·have e3:=((jC (jD hf.out)).1 (hd 3 rfl))
  have zh:=hf.out.2.2.2.1
  have q:wx.cell? ⟨w.heap.size+1,3,none⟩=some (.int .i64 i):=by rw [← NI.out];exact (bO zh).1 3
  go_simp
  refine hK.out (upd s 47 (.int .i64 i)) _ _ (by simp [ae,e3] <;> rfl) (kD (kC (kA (kX (fun _=>rfl) id))) hf.out)
 ·have e2:=((jD hf.out).2.2.2.1 (hd 2 rfl))
  have e4:=((jC (jD hf.out)).2.1 (hd 4 rfl))
  go_simp
  refine hK.out (upd s 48 (.pointer (some ⟨g,i*3,none⟩))) _ _ (by simp [ae,e2,e4] <;> rfl) (kD (kC (kB (kX (fun _=>rfl) id))) hf.out)
 ·have e5:=((jC (jD hf.out)).2.2.1 (hd 5 rfl))
  go_simp
  refine hK.out (upd s 49 (.pointer (some ⟨g,i*3+2,none⟩))) _ _ (by simp [ae,e5] <;> rfl) (kD (kC (kB (kA (kX (fun _=>rfl) id)))) hf.out)
 ·have e6:=((jC (jD hf.out)).2.2.2.1 (hd 6 rfl))
  have hcl:=(jD hf.out).1 (hn 12 rfl)
  have y0:=(hcl.cell (p:=⟨g,i*3+2,none⟩) hlt).trans c2
  go_simp
  refine hK.out (upd s 50 (.int .i64 t)) _ _ (by simp [ae,e6] <;> rfl) (kE (kX (fun _=>rfl) id) hf.out)
 ·have zh:=hf.out.2.2.2.1
  go_simp
  refine hK.out (upd s 51 (.agg (aa h))) _ _ (by simp [ae] <;> rfl) (kE (kA (kX (fun _=>rfl) id)) hf.out)
 ·have e8:=((jE hf.out).2.1 (hd 8 rfl))
  go_simp
  go_at_call 247
  refine (cZ h 13 _).mono ?_
  rintro _ wy ⟨rfl,hE⟩
  refine hK.out (upd s 52 (.agg (aa ({ h with pos:=13 })))) _ _ (by simp [ae,e8] <;> rfl) (kX (fu hf.out.1 (dx hE)) (kX (Nat.le_trans hf.out.2.1 (Below.size hE)) (kX (dS hf.out.2.2.1 hE) (kX (dS hf.out.2.2.2.1 hE) (kX (dS hf.out.2.2.2.2.1 hE) (kX (dS (jC hf.out).2.1 hE) (kX (fun h9=>own_below ((jC hf.out).2.2.1 h9) hE) (kX (fun h9=>own_below ((jC hf.out).2.2.2.1 h9) hE) (kX (fun h9=>bT ((jD hf.out).1 h9) hE) (kD (kA (kX (fun _=>rfl) (kB (kX (nU (hn 12 rfl)) (kX (nU (hn 13 rfl)) (kX (nU (hn 14 rfl)) (kX (nU (hn 15 rfl)) (fun _=>nU (hn 18 rfl)))))))))))))))))) hf.out)
 ·have zh:=hf.out.2.2.2.1
  go_simp
  refine hK.out (upd s 53 (.agg (aa h))) _ _ (by simp [ae] <;> rfl) (kE (kB (kA (kX (fun _=>rfl) id))) hf.out)
 ·have e10:=((jE hf.out).2.2.2.1 (hd 10 rfl))
  go_simp
  go_at_call 247
  refine (cZ h 10 _).mono ?_
  rintro _ wy ⟨rfl,hE⟩
  refine hK.out (upd s 54 (.agg (aa ({ h with pos:=10 })))) _ _ (by simp [ae,e10] <;> rfl) (kX (fu hf.out.1 (dx hE)) (kX (Nat.le_trans hf.out.2.1 (Below.size hE)) (kX (dS hf.out.2.2.1 hE) (kX (dS hf.out.2.2.2.1 hE) (kX (dS hf.out.2.2.2.2.1 hE) (kX (dS (jC hf.out).2.1 hE) (kX (fun h9=>own_below ((jC hf.out).2.2.1 h9) hE) (kX (fun h9=>own_below ((jC hf.out).2.2.2.1 h9) hE) (kX (fun h9=>bT ((jD hf.out).1 h9) hE) (kD (kB (kA (kX (fun _=>rfl) (kX (nU (hn 12 rfl)) (kX (nU (hn 13 rfl)) (kX (nU (hn 14 rfl)) (kX (nU (hn 15 rfl)) (fun _=>nU (hn 18 rfl)))))))))))))))))) hf.out)
 ·have e0:=((jD hf.out).2.1 (hd 0 rfl))
  have e7:=((jE hf.out).1 (hd 7 rfl))
  have e9:=((jE hf.out).2.2.1 (hd 9 rfl))
  have e11:=((jC (jE hf.out)).1 (hd 11 rfl))
  go_simp
  go_at_call 265
  refine (T.out _ ((jC hf.out).2.2.1 hl) ((jC hf.out).2.2.2.1 hl)).mono ?_
  rintro _ wy ⟨⟨y1,y2,rfl,X1,X2,F1,F2⟩,hO⟩
  refine hK.out (upd (upd (upd s 1003 (y1)) 1004 (y2)) 55 (.tuple #[.agg (af x.1 y1 y2),.agg (aa x.2.1),.bool x.2.2])) _ _ (by simp [ae,e0,e7,e9,e11] <;> rfl) (kX (fu hf.out.1 hO) (kX (Nat.le_trans hf.out.2.1 hO.2.2.2.1) (kX (fA hf.out.2.2.1 hO ((jC hf.out).2.2.1 hl) ((jC hf.out).2.2.2.1 hl) (by decide) (by decide)) (kX (fA hf.out.2.2.2.1 hO ((jC hf.out).2.2.1 hl) ((jC hf.out).2.2.2.1 hl) (by decide) (by decide)) (kX (by (have ee:l 16=false:=hn 16 rfl);(have F:=hf.out.2.2.2.2.1);rw [ee] at F;rw [show upd l 12 true 16=false from ee];exact fA F hO ((jC hf.out).2.2.1 hl) ((jC hf.out).2.2.2.1 hl) (by decide) (by decide)) (kX (by (have ee:l 17=false:=hn 17 rfl);(have F:=(jC hf.out).2.1);rw [ee] at F;rw [show upd l 12 true 17=false from ee];exact fA F hO ((jC hf.out).2.2.1 hl) ((jC hf.out).2.2.2.1 hl) (by decide) (by decide)) (kX (fun h9=>nU h9 (show upd l 12 true 12=true from rfl)) (kX (fun h9=>nU h9 (show upd l 12 true 12=true from rfl)) (kX (fun h9=>nU h9 (show upd l 12 true 12=true from rfl)) (kD (kC (kX (fun _=>⟨rfl,X1,X2,fun j hj=>(F1 j hj).imp id (fun h=>Nat.le_trans hf.out.1.2.2.2.1 h),fun j hj=>(F2 j hj).imp id (fun h=>Nat.le_trans hf.out.1.2.2.2.1 h)⟩) (kX (nU (hn 13 rfl)) (kX (nU (hn 14 rfl)) (kX (nU (hn 15 rfl)) (fun _=>nU (hn 18 rfl)))))))))))))))) hf.out)
 ·have e12:=((jC (jE hf.out)).2.1 (hd 12 rfl)).1
  go_simp
  refine hK.out (upd s 56 (.agg (af x.1 (s 1003) (s 1004)))) _ _ (by simp [ae,e12] <;> rfl) (kE (kC (kB (kX (fun _=>rfl) id))) hf.out)
 ·have e12:=((jC (jE hf.out)).2.1 (hd 12 rfl)).1
  go_simp
  refine hK.out (upd s 57 (.agg (aa x.2.1))) _ _ (by simp [ae,e12] <;> rfl) (kE (kC (kB (kA (kX (fun _=>rfl) id)))) hf.out)
 ·have e12:=((jC (jE hf.out)).2.1 (hd 12 rfl)).1
  go_simp
  refine hK.out (upd s 58 (.bool x.2.2)) _ _ (by simp [ae,e12] <;> rfl) (kE (kD (kX (fun _=>rfl) id)) hf.out)
 ·have e13:=((jC (jE hf.out)).2.2.1 (hd 13 rfl))
  have e12:=((jC (jE hf.out)).2.1 (hd 12 rfl))
  have X1:=e12.2.1
  have X2:=e12.2.2.1
  clear e12
  have zr:=hf.out.2.2.2.2.1
  rw [hl] at zr
  dsimp only [cond] at zr
  obtain ⟨xa,xp,ea,_⟩:=X1.seg
  obtain ⟨xb,xq,mq,_⟩:=X2.seg
  rw [ea,mq] at e13
  have zn:hp (bY wx (w.heap.size+1+1) (af x.1 (.slice xa x.1.cells.length xp) (.slice xb x.1.words.length xq))) (w.heap.size+1+1)=some (.cells (af x.1 (s 1003) (s 1004)) 31):=by rw [ea,mq];exact fH zr
  have hO:=hf.out.1
  go_simp
  refine hK.out (s) _ _ (by simp [ae,e13,ea,mq] <;> rfl) (kX (oX hO tO) (kX (Nat.le_trans hf.out.2.1 (Nat.le_of_eq aC.symm)) (kX ((aD tO).trans hf.out.2.2.1) (kX ((aD tO).trans hf.out.2.2.2.1) (kX (zn) (kX ((aD tO).trans (jC hf.out).2.1) (kX (fun h9=>nU h9 (show upd l 16 true 12=true from hd 12 rfl)) (kX (fun h9=>nU h9 (show upd l 16 true 12=true from hd 12 rfl)) (kX (fun h9=>nU h9 (show upd l 16 true 12=true from hd 12 rfl)) (kD (kC (kX (fun h=>(let ⟨e,X1,X2,F1,F2⟩:=(jC (jE hf.out)).2.1 h;⟨e,cO X1 zr (by decide),cO X2 zr (by decide),F1,F2⟩)) id))))))))))) hf.out)
 ·have e14:=((jC (jE hf.out)).2.2.2.1 (hd 14 rfl))
  have e12:=((jC (jE hf.out)).2.1 (hd 12 rfl))
  have X1:=e12.2.1
  have X2:=e12.2.2.1
  clear e12
  have zr:=(jC hf.out).2.1
  rw [hl] at zr
  dsimp only [cond] at zr
  have zn:hp (bY wx (w.heap.size+1+1+1) (aa x.2.1)) (w.heap.size+1+1+1)=some (.cells (aa x.2.1) 49):=by exact fH zr
  have hO:=hf.out.1
  go_simp
  refine hK.out (s) _ _ (by simp [ae,e14] <;> rfl) (kX (oX hO tO) (kX (Nat.le_trans hf.out.2.1 (Nat.le_of_eq aC.symm)) (kX ((aD tO).trans hf.out.2.2.1) (kX ((aD tO).trans hf.out.2.2.2.1) (kX ((aD tO).trans hf.out.2.2.2.2.1) (kX (zn) (kX (fun h9=>nU h9 (show upd l 17 true 12=true from hd 12 rfl)) (kX (fun h9=>nU h9 (show upd l 17 true 12=true from hd 12 rfl)) (kX (fun h9=>nU h9 (show upd l 17 true 12=true from hd 12 rfl)) (kD (kC (kX (fun h=>(let ⟨e,X1,X2,F1,F2⟩:=(jC (jE hf.out)).2.1 h;⟨e,cO X1 zr (by decide),cO X2 zr (by decide),F1,F2⟩)) id))))))))))) hf.out)
 ·have e15:=((jD (jE hf.out)).1 (hd 15 rfl))
  go_simp
  refine hK.out (upd s 6 (.bool x.2.2)) _ _ (by simp [ae,e15] <;> rfl) (kE (kD (kA (fun _=>fun _=>rfl))) hf.out)
theorem BA (c:Ch) (h:Ha) (v1 v2:Value) (lo:Nat) (w:World) (h1:ag w lo v1 c.cells) (h2:ai w lo v2 c.words) (hs0:(h.seen == 0)=false) (hs1:(h.seen == 1)=false) (hs2:(h.seen == 2)=false) (hs3:(h.seen == 3)=false) :
  cu 263 c h v1 v2 lo w (nothing):=by
 have T:=Lib.hid fun W=>fw W lo v1 v2
 generalize nothing=x at *
 obtain ⟨a1,q1,a2,q2,rfl,rfl,o1,o2,b1,b2,m1,m2,m10,m20,m11,m21,m12,m22,m13,m23⟩:=Cu h1 h2
 clear h1 h2
 go_enter Tryz.func263,Tryz.ntmps263
 go_wp2_with fail
 refine (T.out _).mono ?_
 rintro _ w3 ⟨⟨y1,y2,rfl,aV,aX,dL,dI⟩,aO⟩
 have hO3:ik (Value.slice a1 c.cells.length q1).ownBlock (Value.slice a2 c.words.length q2).ownBlock w w3:=fu (dx zB) (dx aO)
 have df:=aO.size;(try simp at df);have zz:=zT aO (b:=w.heap.size);(try simp [go_sem] at zz);replace bX:=dF zz;clear zz aO
 obtain ⟨⟨aI,aJ⟩,dP,dQ⟩:=sO (w:=w) (w.heap.size+1+1+1+1) dL dI b1 b2;obtain ⟨ya,yp,rfl,_⟩:=aV.seg;obtain ⟨yb,yq,rfl,_⟩:=aX.seg
 go_wp2
 refine rE Tryz.results263 rfl (az x.1 (.slice ya x.1.cells.length yp) (.slice yb x.1.words.length yq) tY) rfl (aj x.2.1 tY) ⟨⟨_,_,rfl,?_,?_,dP,dQ⟩,by exact zN⟩
 ·exact zP aV aV aI
 ·exact zP aX aX aJ
end
end Go.Proofs.YtffhjmepfojhnaaGreat
