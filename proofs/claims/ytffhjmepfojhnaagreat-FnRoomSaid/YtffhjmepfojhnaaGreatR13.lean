/-
  The reference model's putting into a cell that is turned, on hands and channels that are kept whole; the lists are the call's own and hold at most 2 ^ 40 elements.
-/
import Derived.Test.YtffhjmepfojhnaaGreatR11
import Derived.Test.YtffhjmepfojhnaaGreatR12
import Derived.Test.YtffhjmepfojhnaaGreatR01
set_option maxRecDepth 100000
set_option maxHeartbeats 4000000
set_option linter.unusedSimpArgs false
set_option linter.unusedVariables false
namespace Go.Proofs.YtffhjmepfojhnaaGreat
section
open Go.RowKit
attribute [local simp] aC
attribute [local go_sem ↓] aB aU aL bB aM bC aG aN au aF
theorem AA (c:Ch) (h:Ha) (v1 v2:Value) (lo:Nat) (w:World) (h1:ag w lo v1 c.cells) (h2:ai w lo v2 c.words) (hc0:0≤h.cell) (hc1:h.cell<c.cells.length) (hso:h.seen=1) (ht:bn c h.cell h.seen 2 0=false) :
    cu 201 c h v1 v2 lo w (iK c h):=by
  obtain ⟨i,hci⟩:∃ i:Nat,h.cell=(i:Int):=⟨h.cell.toNat,by omega⟩
  have hs:=hso
  rw [hci,hs] at ht
  have e:iK c h=done (aY c i 1 2 0) { h with pos:=3,cell:=(i:Int),seen:=1 }:=by simp [iK,hs,hci,ht]
  rw [e]
  have hi:i<c.cells.length:=by omega
  have T:=Lib.hid fun W a b=>iW c i 1 2 0 v1 v2 lo W a b hi
  have D:=Lib.hid fun W=>bE (aY c i 1 2 0) { h with pos:=3,cell:=(i:Int),seen:=1 } v1 v2 lo W
  generalize done (aY c i 1 2 0) { h with pos:=3,cell:=(i:Int),seen:=1 }=x at *
  rw [ht] at T
  have b1:=jF h1
  have b2:=jF h2
  have m1:=mG b1
  have m10:=m1 w.heap.size tO
  have m11:=m1 (w.heap.size+1) tO
  have m12:=m1 (w.heap.size+1+1) tO
  have m13:=m1 (w.heap.size+1+1+1) tO
  have o1:=h1
  have o2:=h2
  obtain ⟨a1,q1,e1,_⟩:=h1.seg
  obtain ⟨a2,q2,e2,_⟩:=h2.seg
  subst e1 e2
  clear h1 h2 e hso
  go_enter Tryz.func201,Tryz.ntmps201
  go_wp2_with fail;refine (T.out _ (zO o1 o1) (zO o2 o2)).mono ?_;rintro _ w1 ⟨rfl,p1,p2,hgw1⟩;have ay:=hgw1.size;(try (simp at ay));have zz:=NU hgw1 (b:=w.heap.size);(try simp [go_sem] at zz);replace bX:=dF zz;clear zz;have jZ:=FV (w:=w) zB hgw1;clear hgw1
  have vw:ik (Value.slice a1 c.cells.length q1).ownBlock (Value.slice a2 c.words.length q2).ownBlock w w1:=lW jZ
  obtain ⟨k0,k1,k2,k3⟩:=kZ (a:=w.heap.size) (b:=w1.heap.size)
  have r1:ag w1 lo (.slice a1 c.cells.length q1) (aY c i 1 2 0).cells:=p1
  have r2:ai w1 lo (.slice a2 c.words.length q2) (aY c i 1 2 0).words:=p2
  go_wp2_with fail
  refine (D.out _ (zO r1 o1) (zO r2 o2)).mono ?_
  rintro _ w3 ⟨⟨y1,y2,rfl,aV,aX,dL,dI⟩,aO⟩
  have hO3:ik (Value.slice a1 c.cells.length q1).ownBlock (Value.slice a2 c.words.length q2).ownBlock w w3:=fu zN (dx aO)
  have df:=aO.size;(try simp at df);have zz:=zT aO (b:=w.heap.size);(first|simp [go_sem,bX,k0,k1,k2,k3] at zz|simp [go_sem] at zz|skip);replace bX:=dF zz;clear zz aO
  obtain ⟨⟨aI,aJ⟩,dP,dQ⟩:=sO (w:=w) (w.heap.size+1+1+1+1) dL dI b1 b2;obtain ⟨ya,yp,rfl,_⟩:=aV.seg;obtain ⟨yb,yq,rfl,_⟩:=aX.seg
  go_wp2
  refine rE Tryz.results201 rfl (az x.1 (.slice ya x.1.cells.length yp) (.slice yb x.1.words.length yq) tY) rfl (aj x.2.1 tY) ⟨⟨_,_,rfl,?_,?_,dP,dQ⟩,by exact zN⟩
  · exact zP aV aV aI
  · exact zP aX aX aJ
theorem qA (c:Ch) (h:Ha) (v1 v2:Value) (lo:Nat) (w:World) (h1:ag w lo v1 c.cells) (h2:ai w lo v2 c.words) (hc0:0≤h.cell) (hc1:h.cell<c.cells.length) (hso:h.seen=0) :
    (∀ (hx:h.cell<h.come) (ht:bn c h.cell h.seen 2 0=false),Calls Tryz.prog 201 #[.agg (af c v1 v2),.agg (aa h)] w fun r w'=>cz w w' lo v1 v2 (iK c h) r) ∧
    (∀ (hx:h.come≤h.cell) (hy:h.cell<h.fin) (ht:bn c h.cell h.seen 2 0=false),Calls Tryz.prog 201 #[.agg (af c v1 v2),.agg (aa h)] w fun r w'=>cz w w' lo v1 v2 (iK c h) r):=by
  constructor
  case' left =>
    intro hx ht
    have mA:Hid (0=0):=rfl
  case' right =>
    intro hx hy ht
    have mB:Hid (0=0):=rfl
  all_goals
    obtain ⟨i,hci⟩:∃ i:Nat,h.cell=(i:Int):=⟨h.cell.toNat,by omega⟩
    have hs:=hso
    rw [hci,hs] at ht
    first
    | (replace mA:=mA;have e:iK c h=done (aY c i 0 2 0) { h with pos:=3,cell:=(i:Int),seen:=0 }:=by simp [iK,hs,hci,ht,show ¬ h.come≤i by omega])
    | (replace mB:=mB;have e:iK c h=done (aY c i 0 2 0) { h with pos:=3,cell:=(i:Int),seen:=0 }:=by simp [iK,hs,hci,ht,show ¬ h.fin≤i by omega])
    rw [e]
    have hi:i<c.cells.length:=by omega
    have T:=Lib.hid fun W a b=>iW c i 0 2 0 v1 v2 lo W a b hi
    have D:=Lib.hid fun W=>bE (aY c i 0 2 0) { h with pos:=3,cell:=(i:Int),seen:=0 } v1 v2 lo W
    generalize done (aY c i 0 2 0) { h with pos:=3,cell:=(i:Int),seen:=0 }=x at *
    rw [ht] at T
    have b1:=jF h1
    have b2:=jF h2
    have m1:=mG b1
    have m10:=m1 w.heap.size tO
    have m11:=m1 (w.heap.size+1) tO
    have m12:=m1 (w.heap.size+1+1) tO
    have m13:=m1 (w.heap.size+1+1+1) tO
    have o1:=h1
    have o2:=h2
    obtain ⟨a1,q1,e1,_⟩:=h1.seg
    obtain ⟨a2,q2,e2,_⟩:=h2.seg
    subst e1 e2
    clear h1 h2 e hso
    first
    | (replace mA:=mA
       have hx2:¬ h.come≤(i:Int):=by omega
       clear hx)
    | (replace mB:=mB
       have hx2:h.come≤(i:Int):=by omega
       have hy2:¬ h.fin≤(i:Int):=by omega
       clear hx hy)
    go_enter Tryz.func201,Tryz.ntmps201
    go_wp2_with fail;refine (T.out _ (zO o1 o1) (zO o2 o2)).mono ?_;rintro _ w1 ⟨rfl,p1,p2,hgw1⟩;have ay:=hgw1.size;(try (simp at ay));have zz:=NU hgw1 (b:=w.heap.size);(try simp [go_sem] at zz);replace bX:=dF zz;clear zz;have jZ:=FV (w:=w) zB hgw1;clear hgw1
    have vw:ik (Value.slice a1 c.cells.length q1).ownBlock (Value.slice a2 c.words.length q2).ownBlock w w1:=lW jZ
    obtain ⟨k0,k1,k2,k3⟩:=kZ (a:=w.heap.size) (b:=w1.heap.size)
    have r1:ag w1 lo (.slice a1 c.cells.length q1) (aY c i 0 2 0).cells:=p1
    have r2:ai w1 lo (.slice a2 c.words.length q2) (aY c i 0 2 0).words:=p2
    go_wp2_with fail
    refine (D.out _ (zO r1 o1) (zO r2 o2)).mono ?_
    rintro _ w3 ⟨⟨y1,y2,rfl,aV,aX,dL,dI⟩,aO⟩
    have hO3:ik (Value.slice a1 c.cells.length q1).ownBlock (Value.slice a2 c.words.length q2).ownBlock w w3:=fu zN (dx aO)
    have df:=aO.size;(try simp at df);have zz:=zT aO (b:=w.heap.size);(first|simp [go_sem,bX,k0,k1,k2,k3] at zz|simp [go_sem] at zz|skip);replace bX:=dF zz;clear zz aO
    obtain ⟨⟨aI,aJ⟩,dP,dQ⟩:=sO (w:=w) (w.heap.size+1+1+1+1) dL dI b1 b2;obtain ⟨ya,yp,rfl,_⟩:=aV.seg;obtain ⟨yb,yq,rfl,_⟩:=aX.seg
    go_wp2
    refine rE Tryz.results201 rfl (az x.1 (.slice ya x.1.cells.length yp) (.slice yb x.1.words.length yq) tY) rfl (aj x.2.1 tY) ⟨⟨_,_,rfl,?_,?_,dP,dQ⟩,by exact zN⟩
    · exact zP aV aV aI
    · exact zP aX aX aJ
theorem AB (c:Ch) (h:Ha) (v1 v2:Value) (lo:Nat) (w:World) (h1:ag w lo v1 c.cells) (h2:ai w lo v2 c.words) (hc0:0≤h.cell) (hc1:h.cell<c.cells.length) (hso:h.seen=0) (hx:h.cell<h.come) (ht:bn c h.cell h.seen 2 0=false) :
    Calls Tryz.prog 201 #[.agg (af c v1 v2),.agg (aa h)] w fun r w'=>cz w w' lo v1 v2 (iK c h) r:=(qA c h v1 v2 lo w h1 h2 hc0 hc1 hso).1 hx ht
theorem AJ (c:Ch) (h:Ha) (v1 v2:Value) (lo:Nat) (w:World) (h1:ag w lo v1 c.cells) (h2:ai w lo v2 c.words) (hc0:0≤h.cell) (hc1:h.cell<c.cells.length) (hso:h.seen=0) (hx:h.come≤h.cell) (hy:h.cell<h.fin) (ht:bn c h.cell h.seen 2 0=false) :
    Calls Tryz.prog 201 #[.agg (af c v1 v2),.agg (aa h)] w fun r w'=>cz w w' lo v1 v2 (iK c h) r:=(qA c h v1 v2 lo w h1 h2 hc0 hc1 hso).2 hx hy ht
end
section
open Go.RowKit
theorem Gx (c:Ch) (h:Ha) (v1 v2:Value) (lo:Nat) (w:World) (h1:ag w lo v1 c.cells) (h2:ai w lo v2 c.words) (hlo:lo≤w.heap.size) (hc0:0≤h.cell) (hc1:h.cell<c.cells.length) :
  cu 201 c h v1 v2 lo w (iK c h):=by
 by_cases hs:(h.seen != 0 && h.seen != 1)=true
 ·exact Dq c h v1 v2 lo w h1 h2 hs
 ·have hs2:h.seen=0∨h.seen=1:=by simp at hs;omega
  rcases hs2 with h0|h0
  ·by_cases hx:h.come≤h.cell
   ·by_cases hy:h.fin≤h.cell
    ·exact Dr c h v1 v2 lo w h1 h2 hlo hc0 hc1 h0 hx hy
    ·cases ht:bn c h.cell h.seen 2 0 with
     | true=>exact A9 c h v1 v2 lo w h1 h2 hc0 hc1 h0 hx tO ht
     | false=>exact AJ c h v1 v2 lo w h1 h2 hc0 hc1 h0 hx tO ht
   ·cases ht:bn c h.cell h.seen 2 0 with
    | true=>exact A8 c h v1 v2 lo w h1 h2 hc0 hc1 h0 tO ht
    | false=>exact AB c h v1 v2 lo w h1 h2 hc0 hc1 h0 tO ht
  ·cases ht:bn c h.cell h.seen 2 0 with
   | true=>exact A7 c h v1 v2 lo w h1 h2 hc0 hc1 h0 ht
   | false=>exact AA c h v1 v2 lo w h1 h2 hc0 hc1 h0 ht
end
section
open Go.RowKit
attribute [local simp] aC
attribute [local go_sem ↓] aB aU aL bB aM bC aG aN au aF
theorem Dt (c:Ch) (h:Ha) (a b:Option Addr) (p q:Nat) (w:World) (h1:eY w w.heap.size a c.cells) (z1:a=none→p=0) (h2:eQ w w.heap.size b c.words) (z2:b=none→q=0) (m1:c.cells.length≤1099511627776) (m2:c.words.length≤1099511627776) :
  Calls Tryz.prog 202 #[.agg (af c (.slice a c.cells.length p) (.slice b c.words.length q)),.agg (aa h)] w fun r w'=>(∃ v1 v2,r=.returned (.tuple #[.agg (af c v1 v2),.agg (aa (lY c h).2)])∧ag w' w.heap.size v1 c.cells∧ai w' w.heap.size v2 (dN c h.wait 1).words)∧Below w.heap.size w w':=by
 have H1:=Lib.hid h1
 have H2:=Lib.hid h2
 have Z1:=Lib.hid z1
 have Z2:=Lib.hid z2
 clear h1 h2 z1 z2
 cases ht:fo c h.wait 1 with
 | true =>
  have e:(lY c h).2={ h with pos:=8 }:=by simp [lY,ht]
  rw [e]
  go_enter Tryz.func202,Tryz.ntmps202
  go_wp2_with fail;refine ax w zB fun bb=>?_;refine (oJ c h.wait 1 a b p q _ (aT H1 bb) Z1.out (aT H2 bb) Z2.out m1 m2).mono ?_;rintro _ w1 ⟨⟨v1,v2,rfl,o1,o2⟩,ah⟩;obtain ⟨aW,ay,zz⟩:=dZ bb ah (b:=w.heap.size);(try simp at ay);(try simp [go_sem] at zz);replace bX:=dF zz;clear zz ah bb
  rw [ht]
  try simp at o1 o2
  obtain ⟨a1,q1,rfl,_⟩:=o1.seg
  obtain ⟨a2,q2,rfl,_⟩:=o2.seg
  go_wp2
  go_region
  go_wp2
  all_goals (refine bodyPost_ret (pQ Tryz.results202 rfl (az c (.slice a1 c.cells.length q1) (.slice a2 (dN c h.wait 1).words.length q2) tY) rfl (aj { h with pos:=8 } tZ)) rfl ⟨⟨_,_,rfl,av (lo:=w.heap.size+1+1+1+1) ?_ tO,av (lo:=w.heap.size+1+1+1+1) ?_ tO⟩,by exact zB⟩)
  ·exact zO o1 o1
  ·exact zO o2 o2
 | false =>
  have e:(lY c h).2=anew h:=by simp [lY,ht]
  rw [e]
  go_enter Tryz.func202,Tryz.ntmps202
  go_wp2_with fail;refine ax w zB fun bb=>?_;refine (oJ c h.wait 1 a b p q _ (aT H1 bb) Z1.out (aT H2 bb) Z2.out m1 m2).mono ?_;rintro _ w1 ⟨⟨v1,v2,rfl,o1,o2⟩,ah⟩;obtain ⟨aW,ay,zz⟩:=dZ bb ah (b:=w.heap.size);(try simp at ay);(try simp [go_sem] at zz);replace bX:=dF zz;clear zz ah bb
  rw [ht]
  try simp at o1 o2
  obtain ⟨a1,q1,rfl,_⟩:=o1.seg
  obtain ⟨a2,q2,rfl,_⟩:=o2.seg
  go_wp2_with fail
  go_region_with (go_at_call 207;refine ax w zB fun bb=>?_;refine ax w1 zB fun bk=>?_;refine (jW _ _).mono ?_;rintro _ w2 ⟨rfl,hbw2⟩;have dE:=bT bb hbw2;have bu:=hbw2.size;(try simp at bu);have zz:=And.intro (hQ hbw2 (b:=w1.heap.size)) <| And.intro (hQ hbw2 (b:=w.heap.size+1+1+1)) <| And.intro (hQ hbw2 (b:=w.heap.size+1+1)) <| And.intro (hQ hbw2 (b:=w.heap.size+1)) <| hQ hbw2 (b:=w.heap.size);(first|simp [go_sem,bX] at zz|simp [go_sem] at zz|skip);replace bX:=jL zz;clear zz;have eu:=bT bk hbw2;clear hbw2 bb bk)
  all_goals (go_wp2_with fail)
  all_goals (have p1:=own_below o1 eu;have p2:=own_below o2 eu)
  all_goals (refine bodyPost_ret (pQ Tryz.results202 rfl (az c (.slice a1 c.cells.length q1) (.slice a2 (dN c h.wait 1).words.length q2) tY) rfl (aj (anew h) tZ)) rfl ⟨⟨_,_,rfl,av (lo:=w.heap.size+1+1+1+1) ?_ tO,av (lo:=w.heap.size+1+1+1+1) ?_ tO⟩,by exact zB⟩)
  all_goals first|(repeat first|with_reducible exact p1|with_reducible refine zR ?_ _|with_reducible refine vv ?_|((with_reducible first|refine aS ?_ ?_ _|refine gp ?_ ?_);rotate_left;focus first|(refine own_ne o1 ?_;(try dsimp only);omega)|(refine gI o1 ?_;(try dsimp only);omega)))|skip
  all_goals first|(repeat first|with_reducible exact p2|with_reducible refine zR ?_ _|with_reducible refine vv ?_|((with_reducible first|refine aS ?_ ?_ _|refine gp ?_ ?_);rotate_left;focus first|(refine own_ne o2 ?_;(try dsimp only);omega)|(refine gI o2 ?_;(try dsimp only);omega)))|skip
end
section
open Go.RowKit
attribute [local simp] aC
attribute [local go_sem ↓] aB aU aL bB aM bC aG aN au aF
theorem dW.off2 {w:World} {v v':Value} {lim b:Nat} (h:dW w v v') (hv:∀ j,v.ownBlock=some j→lim≤j) (h2:b<lim) (h3:lim≤w.heap.size):v'.ownBlock≠some b:=fun e=>by
 rcases h b e with h|h
 ·have:=hv b h;omega
 ·omega
theorem dW.up {w:World} {v v':Value} {lim n:Nat} (h:dW w v v') (hv:∀ j,v.ownBlock=some j→lim≤j) (h1:n≤lim) (h2:n≤w.heap.size) (j:Nat) (hj:v'.ownBlock=some j):n≤j:=by
 rcases h j hj with h|h
 ·have:=hv j h;omega
 ·omega
def bV (w w':World) (x:St) (r:Ending):Prop:=tN w w' w.heap.size (.slice none 0 0) (.slice none 0 0) x r∧Below w.heap.size w w'
theorem lL {w wk:World} {v v' u u':Value} (lim:Nat) (f1:dW wk v v') (f2:dW wk u u') (d1:∀ j,v.ownBlock=some j→lim≤j) (d2:∀ j,u.ownBlock=some j→lim≤j) (h:lim≤wk.heap.size:=by (try simp) <;> omega) (g:w.heap.size≤lim:=by (try simp) <;> omega):((∀ j,w.heap.size≤j→j<lim→v'.ownBlock≠some j)∧(∀ j,w.heap.size≤j→j<lim→u'.ownBlock≠some j))∧dW w (.slice none 0 0) v'∧dW w (.slice none 0 0) u' :=
 ⟨⟨fun _ _ h2=>f1.off2 d1 h2 h,fun _ _ h2=>f2.off2 d2 h2 h⟩,fun j hj=>.inr (f1.up d1 g (Nat.le_trans g h) j hj),fun j hj=>.inr (f2.up d2 g (Nat.le_trans g h) j hj)⟩
theorem bQ {c:Ch} {h:Ha} {f t k:Int} (e:bf c h f t k=true):aK c=true∧bW h=true∧f≤h.pos∧h.pos≤t:=by
 simp [bf,dm] at e
 exact ⟨e.1,e.2.1,e.2.2.1.1,e.2.2.1.2⟩
theorem dU {c:Ch} (e:aK c=true):c.cells.length=40∧c.words.length≤80:=by
 simp [aK,fq] at e
 omega
theorem fM {h:Ha} (e:bW h=true):0≤h.cell∧h.cell≤39:=by
 simp [bW,wR,dm] at e
 omega
theorem JE (c:Ch) (h:Ha) (a b:Option Addr) (p q:Nat) (w:World) (h1:eY w w.heap.size a c.cells) (h2:eQ w w.heap.size b c.words) (hk:bf c h 1 8 1=false) :
  Calls Tryz.prog 189 #[.agg (af c (.slice a c.cells.length p) (.slice b c.words.length q)),.agg (aa h)] w fun r w'=>bV w w' (aZ c h) r:=by
 have e:aZ c h=nothing:=by simp [aZ,hk]
 rw [e]
 have H1:=Lib.hid h1
 have H2:=Lib.hid h2
 have T:=Lib.hid fun W=>gH W w.heap.size (.slice none 0 0) (.slice none 0 0)
 generalize nothing=x at *
 clear h1 h2 e
 have d1:∀ j,(Value.slice none 0 0).ownBlock=some j→w.heap.size+1+1+1+1≤j:=fun j hj=>by cases hj
 have d2:=d1
 go_enter Tryz.func189,Tryz.ntmps189
 go_wp2_with fail;refine ax w zB fun bb=>?_;refine (d9 c h 1 8 1 a b p q _ (aT H1 bb) (aT H2 bb)).mono ?_;rintro _ w1 ⟨rfl,ah⟩;obtain ⟨aW,ay,zz⟩:=dZ bb ah (b:=w.heap.size);(try simp at ay);(try simp [go_sem] at zz);replace bX:=dF zz;clear zz ah bb
 rw [hk]
 go_wp2_with fail;refine ax w zB fun bb=>?_;refine (T.out _).mono ?_;rintro _ w2 ⟨⟨y1,y2,rfl,aV,aX,dL,dI⟩,hbw2⟩;obtain ⟨dE,bu,zz⟩:=dZ bb hbw2 (b:=w.heap.size);(try simp at bu);(first|simp [go_sem,bX] at zz|simp [go_sem] at zz|skip);replace bX:=dF zz;clear zz hbw2 bb
 have aI:∀ j,w.heap.size≤j→j<w.heap.size+1+1+1+1→y1.ownBlock≠some j:=fun j _ h2=>dL.off2 d1 h2 tS;have aJ:∀ j,w.heap.size≤j→j<w.heap.size+1+1+1+1→y2.ownBlock≠some j:=fun j _ h2=>dI.off2 d2 h2 tS;have dP:dW w (.slice none 0 0) y1:=fun j hj=>.inr (dL.up d1 tS tS j hj);have dQ:dW w (.slice none 0 0) y2:=fun j hj=>.inr (dI.up d2 tS tS j hj);obtain ⟨ya,yp,rfl,_⟩:=aV.seg;obtain ⟨yb,yq,rfl,_⟩:=aX.seg
 go_wp2
 refine rE Tryz.results189 rfl (az x.1 (.slice ya x.1.cells.length yp) (.slice yb x.1.words.length yq) tY) rfl (aj x.2.1 tY) ⟨⟨_,_,rfl,?_,?_,dP,dQ⟩,by exact zB⟩
 ·exact zP aV aV aI
 ·exact zP aX aX aJ
theorem M8 (c:Ch) (h:Ha) (a b:Option Addr) (p q:Nat) (w:World) (h1:eY w w.heap.size a c.cells) (z1:a=none→p=0) (h2:eQ w w.heap.size b c.words) (z2:b=none→q=0) (hk:bf c h 1 8 1=true) (hp0:h.pos=4) :
  Calls Tryz.prog 189 #[.agg (af c (.slice a c.cells.length p) (.slice b c.words.length q)),.agg (aa h)] w fun r w'=>bV w w' (aZ c h) r:=by
 have e:aZ c h=done c { h with fin:=c.fin,pos:=5 }:=by simp [aZ,hk,hp0]
 rw [e]
 obtain ⟨k1,k2,_,_⟩:=bQ hk
 obtain ⟨n1,n2⟩:=dU k1
 have m1:c.cells.length≤1099511627776:=by omega
 have m2:c.words.length≤1099511627776:=by omega
 have H1:=Lib.hid h1
 have H2:=Lib.hid h2
 have Z1:=Lib.hid z1
 have Z2:=Lib.hid z2
 have D:=Lib.hid fun v1 v2 W=>bE c { h with fin:=c.fin,pos:=5 } v1 v2 w.heap.size W
 generalize done c { h with fin:=c.fin,pos:=5 }=x at *
 clear h1 h2 z1 z2 e k1 k2 n1 n2
 go_enter Tryz.func189,Tryz.ntmps189
 go_wp2_with fail;refine ax w zB fun bb=>?_;refine (d9 c h 1 8 1 a b p q _ (aT H1 bb) (aT H2 bb)).mono ?_;rintro _ w1 ⟨rfl,ah⟩;obtain ⟨aW,ay,zz⟩:=dZ bb ah (b:=w.heap.size);(try simp at ay);(try simp [go_sem] at zz);replace bX:=dF zz;clear zz ah bb
 rw [hk]
 go_wp2_with fail;refine ax w zB fun bb=>?_;refine (dA c a b p q _ (aT H1 bb) Z1.out (aT H2 bb) Z2.out m1 m2).mono ?_;rintro _ w2 ⟨⟨v1,v2,rfl,o1,o2⟩,hbw2⟩;obtain ⟨dE,bu,zz⟩:=dZ bb hbw2 (b:=w.heap.size);(try simp at bu);(first|simp [go_sem,bX] at zz|simp [go_sem] at zz|skip);replace bX:=dF zz;clear zz hbw2 bb
 have d1:=jd o1 (w.heap.size+1+1+1+1)
 have d2:=jd o2 (w.heap.size+1+1+1+1)
 have p1:=av (lo':=w.heap.size) o1 tO
 have p2:=av (lo':=w.heap.size) o2 tO
 obtain ⟨a1,q1,rfl,_⟩:=o1.seg
 obtain ⟨a2,q2,rfl,_⟩:=o2.seg
 go_wp2_with fail;refine ax w zB fun bb=>?_;refine (D.out _ _ _ (zO p1 o1) (zO p2 o2)).mono ?_;rintro _ w3 ⟨⟨y1,y2,rfl,aV,aX,dL,dI⟩,aO⟩;obtain ⟨ig,df,zz⟩:=dZ bb aO (b:=w.heap.size);(try simp at df);(first|simp [go_sem,bX] at zz|simp [go_sem] at zz|skip);replace bX:=dF zz;clear zz aO bb
 have aI:∀ j,w.heap.size≤j→j<w.heap.size+1+1+1+1→y1.ownBlock≠some j:=fun j _ h2=>dL.off2 d1 h2 tS;have aJ:∀ j,w.heap.size≤j→j<w.heap.size+1+1+1+1→y2.ownBlock≠some j:=fun j _ h2=>dI.off2 d2 h2 tS;have dP:dW w (.slice none 0 0) y1:=fun j hj=>.inr (dL.up d1 tS tS j hj);have dQ:dW w (.slice none 0 0) y2:=fun j hj=>.inr (dI.up d2 tS tS j hj);obtain ⟨ya,yp,rfl,_⟩:=aV.seg;obtain ⟨yb,yq,rfl,_⟩:=aX.seg
 go_wp2
 refine rE Tryz.results189 rfl (az x.1 (.slice ya x.1.cells.length yp) (.slice yb x.1.words.length yq) tY) rfl (aj x.2.1 tY) ⟨⟨_,_,rfl,?_,?_,dP,dQ⟩,by exact zB⟩
 ·exact zP aV aV aI
 ·exact zP aX aX aJ
theorem M9 (c:Ch) (h:Ha) (a b:Option Addr) (p q:Nat) (w:World) (h1:eY w w.heap.size a c.cells) (z1:a=none→p=0) (h2:eQ w w.heap.size b c.words) (z2:b=none→q=0) (hk:bf c h 1 8 1=true) (hp0:h.pos=5) :
  Calls Tryz.prog 189 #[.agg (af c (.slice a c.cells.length p) (.slice b c.words.length q)),.agg (aa h)] w fun r w'=>bV w w' (aZ c h) r:=by
 have e:aZ c h=done c { h with come:=c.got,pos:=6 }:=by simp [aZ,hk,hp0]
 rw [e]
 obtain ⟨k1,k2,_,_⟩:=bQ hk
 obtain ⟨n1,n2⟩:=dU k1
 have m1:c.cells.length≤1099511627776:=by omega
 have m2:c.words.length≤1099511627776:=by omega
 have H1:=Lib.hid h1
 have H2:=Lib.hid h2
 have Z1:=Lib.hid z1
 have Z2:=Lib.hid z2
 have D:=Lib.hid fun v1 v2 W=>bE c { h with come:=c.got,pos:=6 } v1 v2 w.heap.size W
 generalize done c { h with come:=c.got,pos:=6 }=x at *
 clear h1 h2 z1 z2 e k1 k2 n1 n2
 go_enter Tryz.func189,Tryz.ntmps189
 go_wp2_with fail;refine ax w zB fun bb=>?_;refine (d9 c h 1 8 1 a b p q _ (aT H1 bb) (aT H2 bb)).mono ?_;rintro _ w1 ⟨rfl,ah⟩;obtain ⟨aW,ay,zz⟩:=dZ bb ah (b:=w.heap.size);(try simp at ay);(try simp [go_sem] at zz);replace bX:=dF zz;clear zz ah bb
 rw [hk]
 go_wp2_with fail;refine ax w zB fun bb=>?_;refine (dA c a b p q _ (aT H1 bb) Z1.out (aT H2 bb) Z2.out m1 m2).mono ?_;rintro _ w2 ⟨⟨v1,v2,rfl,o1,o2⟩,hbw2⟩;obtain ⟨dE,bu,zz⟩:=dZ bb hbw2 (b:=w.heap.size);(try simp at bu);(first|simp [go_sem,bX] at zz|simp [go_sem] at zz|skip);replace bX:=dF zz;clear zz hbw2 bb
 have d1:=jd o1 (w.heap.size+1+1+1+1)
 have d2:=jd o2 (w.heap.size+1+1+1+1)
 have p1:=av (lo':=w.heap.size) o1 tO
 have p2:=av (lo':=w.heap.size) o2 tO
 obtain ⟨a1,q1,rfl,_⟩:=o1.seg
 obtain ⟨a2,q2,rfl,_⟩:=o2.seg
 go_wp2_with fail;refine ax w zB fun bb=>?_;refine (D.out _ _ _ (zO p1 o1) (zO p2 o2)).mono ?_;rintro _ w3 ⟨⟨y1,y2,rfl,aV,aX,dL,dI⟩,aO⟩;obtain ⟨ig,df,zz⟩:=dZ bb aO (b:=w.heap.size);(try simp at df);(first|simp [go_sem,bX] at zz|simp [go_sem] at zz|skip);replace bX:=dF zz;clear zz aO bb
 have aI:∀ j,w.heap.size≤j→j<w.heap.size+1+1+1+1→y1.ownBlock≠some j:=fun j _ h2=>dL.off2 d1 h2 tS;have aJ:∀ j,w.heap.size≤j→j<w.heap.size+1+1+1+1→y2.ownBlock≠some j:=fun j _ h2=>dI.off2 d2 h2 tS;have dP:dW w (.slice none 0 0) y1:=fun j hj=>.inr (dL.up d1 tS tS j hj);have dQ:dW w (.slice none 0 0) y2:=fun j hj=>.inr (dI.up d2 tS tS j hj);obtain ⟨ya,yp,rfl,_⟩:=aV.seg;obtain ⟨yb,yq,rfl,_⟩:=aX.seg
 go_wp2
 refine rE Tryz.results189 rfl (az x.1 (.slice ya x.1.cells.length yp) (.slice yb x.1.words.length yq) tY) rfl (aj x.2.1 tY) ⟨⟨_,_,rfl,?_,?_,dP,dQ⟩,by exact zB⟩
 ·exact zP aV aV aI
 ·exact zP aX aX aJ
theorem JF (c:Ch) (h:Ha) (a b:Option Addr) (p q:Nat) (w:World) (h1:eY w w.heap.size a c.cells) (z1:a=none→p=0) (h2:eQ w w.heap.size b c.words) (z2:b=none→q=0) (hk:bf c h 1 8 1=true) (hp0:h.pos=1) (hs:¬ c.sent=40) (CY:0≤c.sent∧c.sent≤40) :
  Calls Tryz.prog 189 #[.agg (af c (.slice a c.cells.length p) (.slice b c.words.length q)),.agg (aa h)] w fun r w'=>bV w w' (aZ c h) r:=by
 have e:aZ c h=done { c with sent:=c.sent+1 } { h with cell:=c.sent,pos:=2 }:=by simp [aZ,hk,hp0,wV,hs]
 rw [e]
 obtain ⟨k1,k2,_,_⟩:=bQ hk
 obtain ⟨n1,n2⟩:=dU k1
 have m1:c.cells.length≤1099511627776:=by omega
 have m2:c.words.length≤1099511627776:=by omega
 have H1:=Lib.hid h1
 have H2:=Lib.hid h2
 have Z1:=Lib.hid z1
 have Z2:=Lib.hid z2
 have D:=Lib.hid fun v1 v2 W=>bE { c with sent:=c.sent+1 } { h with cell:=c.sent,pos:=2 } v1 v2 w.heap.size W
 generalize done { c with sent:=c.sent+1 } { h with cell:=c.sent,pos:=2 }=x at *
 clear h1 h2 z1 z2 e k1 k2 n1 n2
 go_enter Tryz.func189,Tryz.ntmps189
 go_wp2_with fail;refine ax w zB fun bb=>?_;refine (d9 c h 1 8 1 a b p q _ (aT H1 bb) (aT H2 bb)).mono ?_;rintro _ w1 ⟨rfl,ah⟩;obtain ⟨aW,ay,zz⟩:=dZ bb ah (b:=w.heap.size);(try simp at ay);(try simp [go_sem] at zz);replace bX:=dF zz;clear zz ah bb
 rw [hk]
 go_wp2_with fail;refine ax w zB fun bb=>?_;refine (dA c a b p q _ (aT H1 bb) Z1.out (aT H2 bb) Z2.out m1 m2).mono ?_;rintro _ w2 ⟨⟨v1,v2,rfl,o1,o2⟩,hbw2⟩;obtain ⟨dE,bu,zz⟩:=dZ bb hbw2 (b:=w.heap.size);(try simp at bu);(first|simp [go_sem,bX] at zz|simp [go_sem] at zz|skip);replace bX:=dF zz;clear zz hbw2 bb
 have d1:=jd o1 (w.heap.size+1+1+1+1)
 have d2:=jd o2 (w.heap.size+1+1+1+1)
 have p1:=av (lo':=w.heap.size) o1 tO
 have p2:=av (lo':=w.heap.size) o2 tO
 obtain ⟨a1,q1,rfl,_⟩:=o1.seg
 obtain ⟨a2,q2,rfl,_⟩:=o2.seg
 have hs0:¬ c.sent=40:=hs
 have hsb:0≤c.sent∧c.sent≤40:=CY
 go_wp2_with fail;refine ax w zB fun bb=>?_;refine (D.out _ _ _ (zO p1 o1) (zO p2 o2)).mono ?_;rintro _ w3 ⟨⟨y1,y2,rfl,aV,aX,dL,dI⟩,aO⟩;obtain ⟨ig,df,zz⟩:=dZ bb aO (b:=w.heap.size);(try simp at df);(first|simp [go_sem,bX] at zz|simp [go_sem] at zz|skip);replace bX:=dF zz;clear zz aO bb
 have aI:∀ j,w.heap.size≤j→j<w.heap.size+1+1+1+1→y1.ownBlock≠some j:=fun j _ h2=>dL.off2 d1 h2 tS;have aJ:∀ j,w.heap.size≤j→j<w.heap.size+1+1+1+1→y2.ownBlock≠some j:=fun j _ h2=>dI.off2 d2 h2 tS;have dP:dW w (.slice none 0 0) y1:=fun j hj=>.inr (dL.up d1 tS tS j hj);have dQ:dW w (.slice none 0 0) y2:=fun j hj=>.inr (dI.up d2 tS tS j hj);obtain ⟨ya,yp,rfl,_⟩:=aV.seg;obtain ⟨yb,yq,rfl,_⟩:=aX.seg
 go_wp2
 refine rE Tryz.results189 rfl (az x.1 (.slice ya x.1.cells.length yp) (.slice yb x.1.words.length yq) tY) rfl (aj x.2.1 tY) ⟨⟨_,_,rfl,?_,?_,dP,dQ⟩,by exact zB⟩
 ·exact zP aV aV aI
 ·exact zP aX aX aJ
end
section
def om (c:Ch) (h:Ha):St:=if h.seen == 3 then iA c h 5 (cellAt c h.cell).t { h with pos:=13 } else fG c h
def dM (c:Ch) (h:Ha):St:=if bf c h 9 15 2 && h.pos == 12 then om c h else bg c h
def mo (c:Ch) (h:Ha):St:=if h.seen == 3 then kS c h 6 (cellAt c h.grow).t { h with pos:=20 } else gz c h
def dn (c:Ch) (h:Ha):St:=if bf c h 16 22 2 && h.pos == 19 then mo c h else bH c h
def iC (c:Ch) (h:Ha):St :=
 if dm h.pos 1 8 then aZ c h else if dm h.pos 9 15 then dM c h else if dm h.pos 16 22 then dn c h else bU c h
def sH (c:Ch) (st wt:Int) (y z:Ha):St:=if bn c y.cell y.seen st wt then (aY c y.cell y.seen st wt,y,true) else (c,z,true)
end
section
def eZ (s:St):Bool:=!s.2.2 && decide (0<s.1.cells.length)
theorem tV (c:Ch) (h:Ha):eZ (done c h)=false:=by
 unfold eZ done
 split <;> simp [nothing,Ch.zero]
theorem oP:eZ nothing=false:=by simp [eZ,nothing,Ch.zero]
theorem rT (c:Ch) (h:Ha) (a b:Int) (y:Ha):eZ (iA c h a b y)=false:=by
 unfold iA
 split <;> exact tV _ _
theorem rU (c:Ch) (h:Ha) (a b:Int) (y:Ha):eZ (kS c h a b y)=false:=by
 unfold kS
 split <;> exact tV _ _
theorem AL (c:Ch) (h:Ha) (e:h.seen=3):eZ (fG c h)=false:=by
 have e2:(h.seen == 2)=false:=by simp [e]
 have e3:(h.seen == 3)=true:=by simp [e]
 unfold fG
 rw [e2,e3]
 exact rT _ _ _ _ _
theorem AO (c:Ch) (h:Ha) (e:h.seen=3):eZ (gz c h)=false:=by
 have e3:(h.seen == 3)=true:=by simp [e]
 unfold gz
 rw [e3]
 exact rU _ _ _ _ _
theorem AP (c:Ch) (h:Ha):eZ (om c h)=eZ (fG c h):=by
 unfold om
 split
 ·rename_i e
  rw [AL c h (by simpa using e),rT]
 ·rfl
theorem AQ (c:Ch) (h:Ha):eZ (mo c h)=eZ (gz c h):=by
 unfold mo
 split
 ·rename_i e
  rw [AO c h (by simpa using e),rU]
 ·rfl
theorem AR (c:Ch) (h:Ha):eZ (dM c h)=eZ (bg c h):=by
 unfold dM
 split
 ·rename_i e
  rw [Bool.and_eq_true] at e
  have p:h.pos=12:=by simpa using e.2
  rw [AP]
  unfold bg
  rw [if_pos e.1]
  simp [p]
 ·rfl
theorem AU (c:Ch) (h:Ha):eZ (dn c h)=eZ (bH c h):=by
 unfold dn
 split
 ·rename_i e
  rw [Bool.and_eq_true] at e
  have p:h.pos=19:=by simpa using e.2
  rw [AQ]
  unfold bH
  rw [if_pos e.1]
  simp [p]
 ·rfl
theorem MB (c:Ch) (h:Ha):eZ (iC c h)=eZ (iH c h):=by
 unfold iC iH
 split
 ·rfl
 ·split
  ·exact AR c h
  ·split
   ·exact AU c h
   ·rfl
end
end Go.Proofs.YtffhjmepfojhnaaGreat
