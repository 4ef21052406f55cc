/-
  The reference model's putting into a cell that is turned, on hands and channels that are kept whole; the lists are the call's own and hold at most 2 ^ 40 elements.
-/
import Derived.Test.YtffhjmepfojhnaaGreatR11
set_option maxRecDepth 100000
set_option maxHeartbeats 4000000
set_option linter.unusedSimpArgs false
set_option linter.unusedVariables false
namespace Go.Proofs.YtffhjmepfojhnaaGreat
open Go.RowKit
attribute [local simp] aC
attribute [local go_sem ↓] aB aU aL bB aM bC aG aN au aF
theorem A7 (c:Ch) (h:Ha) (v1 v2:Value) (lo:Nat) (w:World) (h1:ag w lo v1 c.cells) (h2:ai w lo v2 c.words) (hc0:0≤h.cell) (hc1:h.cell<c.cells.length) (hso:h.seen=1) (ht:bn c h.cell h.seen 2 0=true) :
    cu 201 c h v1 v2 lo w (iK c h):=by
  obtain ⟨i,hci⟩:∃ i:Nat,h.cell=(i:Int):=⟨h.cell.toNat,by omega⟩
  have hs:=hso
  rw [hci,hs] at ht
  have e:iK c h=done (aY c i 1 2 0) (aP 1 0):=by simp [iK,hs,hci,ht]
  rw [e]
  have hi:i<c.cells.length:=by omega
  have T:=Lib.hid fun W a b=>iW c i 1 2 0 v1 v2 lo W a b hi
  have D:=Lib.hid fun W=>bE (aY c i 1 2 0) (aP 1 0) v1 v2 lo W
  generalize done (aY c i 1 2 0) (aP 1 0)=x at *
  rw [ht] at T
  have b1:=jF h1
  have b2:=jF h2
  have m1:=mG b1
  have m10:=m1 w.heap.size tO
  have m11:=m1 (w.heap.size+1) tO
  have m12:=m1 (w.heap.size+1+1) tO
  have m13:=m1 (w.heap.size+1+1+1) tO
  have o1:=h1
  have o2:=h2
  obtain ⟨a1,q1,e1,_⟩:=h1.seg
  obtain ⟨a2,q2,e2,_⟩:=h2.seg
  subst e1 e2
  clear h1 h2 e hso
  go_enter Tryz.func201,Tryz.ntmps201
  go_wp2_with fail;refine (T.out _ (zO o1 o1) (zO o2 o2)).mono ?_;rintro _ w1 ⟨rfl,p1,p2,hgw1⟩;have ay:=hgw1.size;(try (simp at ay));have zz:=NU hgw1 (b:=w.heap.size);(try simp [go_sem] at zz);replace bX:=dF zz;clear zz;have jZ:=FV (w:=w) zB hgw1;clear hgw1
  have vw:ik (Value.slice a1 c.cells.length q1).ownBlock (Value.slice a2 c.words.length q2).ownBlock w w1:=lW jZ
  obtain ⟨k0,k1,k2,k3⟩:=kZ (a:=w.heap.size) (b:=w1.heap.size)
  go_wp2_with fail
  go_region_with (first|((go_at_call 130;refine ax w1 zB fun bk=>?_;refine (fO _ _ _).mono ?_;rintro _ w2 ⟨rfl,hbw2⟩;have bu:=hbw2.size;(try simp at bu);have zz:=And.intro (hQ hbw2 (b:=w1.heap.size)) <| And.intro (hQ hbw2 (b:=w.heap.size+1+1+1)) <| And.intro (hQ hbw2 (b:=w.heap.size+1+1)) <| And.intro (hQ hbw2 (b:=w.heap.size+1)) <| hQ hbw2 (b:=w.heap.size);(first|simp [go_sem,bX,k0,k1,k2,k3] at zz|simp [go_sem] at zz|skip);replace bX:=jL zz;clear zz;have eu:=bT bk hbw2;clear hbw2 bk);have r1:ag w2 lo (.slice a1 c.cells.length q1) (aY c i 1 2 0).cells:=own_below p1 eu;have r2:ai w2 lo (.slice a2 c.words.length q2) (aY c i 1 2 0).words:=own_below p2 eu)|((go_at_call 198;refine ax w2 zB fun bk=>?_;refine (D.out _ (zO r1 r1) (zO r2 r2)).mono ?_;rintro _ w3 ⟨⟨y1,y2,rfl,aV,aX,dL,dI⟩,aO⟩;have df:=aO.size;(try simp at df);have zz:=zT aO (b:=w.heap.size);(first|simp [go_sem,bX,k0,k1,k2,k3] at zz|simp [go_sem] at zz|skip);replace bX:=dF zz;clear zz;have vG:=bT bk aO;clear aO bk);have hO3:=fu vw (fu (dx eu) (dx vG));obtain ⟨⟨aI,aJ⟩,dP,dQ⟩:=sO (w:=w) (w.heap.size+1+1+1+1) dL dI b1 b2;obtain ⟨ya,yp,rfl,_⟩:=aV.seg;obtain ⟨yb,yq,rfl,_⟩:=aX.seg))
  all_goals go_wp2
  all_goals (refine rE Tryz.results201 rfl (az x.1 (.slice ya x.1.cells.length yp) (.slice yb x.1.words.length yq) tY) rfl (aj x.2.1 tY) ⟨⟨_,_,rfl,?_,?_,dP,dQ⟩,by exact zN⟩)
  all_goals (first|exact zP aV aV aI|skip)
  all_goals (first|exact zP aX aX aJ|skip)
theorem q8 (c:Ch) (h:Ha) (v1 v2:Value) (lo:Nat) (w:World) (h1:ag w lo v1 c.cells) (h2:ai w lo v2 c.words) (hc0:0≤h.cell) (hc1:h.cell<c.cells.length) (hso:h.seen=0) :
    (∀ (hx:h.cell<h.come) (ht:bn c h.cell h.seen 2 0=true),Calls Tryz.prog 201 #[.agg (af c v1 v2),.agg (aa h)] w fun r w'=>cz w w' lo v1 v2 (iK c h) r) ∧
    (∀ (hx:h.come≤h.cell) (hy:h.cell<h.fin) (ht:bn c h.cell h.seen 2 0=true),Calls Tryz.prog 201 #[.agg (af c v1 v2),.agg (aa h)] w fun r w'=>cz w w' lo v1 v2 (iK c h) r):=by
  constructor
  case' left =>
    intro hx ht
    have mA:Hid (0=0):=rfl
  case' right =>
    intro hx hy ht
    have mB:Hid (0=0):=rfl
  all_goals
    obtain ⟨i,hci⟩:∃ i:Nat,h.cell=(i:Int):=⟨h.cell.toNat,by omega⟩
    have hs:=hso
    rw [hci,hs] at ht
    first
    | (replace mA:=mA;have e:iK c h=done (aY c i 0 2 0) (aP 1 0):=by simp [iK,hs,hci,ht,show ¬ h.come≤i by omega])
    | (replace mB:=mB;have e:iK c h=done (aY c i 0 2 0) (aP 1 0):=by simp [iK,hs,hci,ht,show ¬ h.fin≤i by omega])
    rw [e]
    have hi:i<c.cells.length:=by omega
    have T:=Lib.hid fun W a b=>iW c i 0 2 0 v1 v2 lo W a b hi
    have D:=Lib.hid fun W=>bE (aY c i 0 2 0) (aP 1 0) v1 v2 lo W
    generalize done (aY c i 0 2 0) (aP 1 0)=x at *
    rw [ht] at T
    have b1:=jF h1
    have b2:=jF h2
    have m1:=mG b1
    have m10:=m1 w.heap.size tO
    have m11:=m1 (w.heap.size+1) tO
    have m12:=m1 (w.heap.size+1+1) tO
    have m13:=m1 (w.heap.size+1+1+1) tO
    have o1:=h1
    have o2:=h2
    obtain ⟨a1,q1,e1,_⟩:=h1.seg
    obtain ⟨a2,q2,e2,_⟩:=h2.seg
    subst e1 e2
    clear h1 h2 e hso
    first
    | (replace mA:=mA
       have hx2:¬ h.come≤(i:Int):=by omega
       clear hx)
    | (replace mB:=mB
       have hx2:h.come≤(i:Int):=by omega
       have hy2:¬ h.fin≤(i:Int):=by omega
       clear hx hy)
    go_enter Tryz.func201,Tryz.ntmps201
    go_wp2_with fail;refine (T.out _ (zO o1 o1) (zO o2 o2)).mono ?_;rintro _ w1 ⟨rfl,p1,p2,hgw1⟩;have ay:=hgw1.size;(try (simp at ay));have zz:=NU hgw1 (b:=w.heap.size);(try simp [go_sem] at zz);replace bX:=dF zz;clear zz;have jZ:=FV (w:=w) zB hgw1;clear hgw1
    have vw:ik (Value.slice a1 c.cells.length q1).ownBlock (Value.slice a2 c.words.length q2).ownBlock w w1:=lW jZ
    obtain ⟨k0,k1,k2,k3⟩:=kZ (a:=w.heap.size) (b:=w1.heap.size)
    go_wp2_with fail
    go_region_with (first|((go_at_call 130;refine ax w1 zB fun bk=>?_;refine (fO _ _ _).mono ?_;rintro _ w2 ⟨rfl,hbw2⟩;have bu:=hbw2.size;(try simp at bu);have zz:=And.intro (hQ hbw2 (b:=w1.heap.size)) <| And.intro (hQ hbw2 (b:=w.heap.size+1+1+1)) <| And.intro (hQ hbw2 (b:=w.heap.size+1+1)) <| And.intro (hQ hbw2 (b:=w.heap.size+1)) <| hQ hbw2 (b:=w.heap.size);(first|simp [go_sem,bX,k0,k1,k2,k3] at zz|simp [go_sem] at zz|skip);replace bX:=jL zz;clear zz;have eu:=bT bk hbw2;clear hbw2 bk);have r1:ag w2 lo (.slice a1 c.cells.length q1) (aY c i 0 2 0).cells:=own_below p1 eu;have r2:ai w2 lo (.slice a2 c.words.length q2) (aY c i 0 2 0).words:=own_below p2 eu)|((go_at_call 198;refine ax w2 zB fun bk=>?_;refine (D.out _ (zO r1 r1) (zO r2 r2)).mono ?_;rintro _ w3 ⟨⟨y1,y2,rfl,aV,aX,dL,dI⟩,aO⟩;have df:=aO.size;(try simp at df);have zz:=zT aO (b:=w.heap.size);(first|simp [go_sem,bX,k0,k1,k2,k3] at zz|simp [go_sem] at zz|skip);replace bX:=dF zz;clear zz;have vG:=bT bk aO;clear aO bk);have hO3:=fu vw (fu (dx eu) (dx vG));obtain ⟨⟨aI,aJ⟩,dP,dQ⟩:=sO (w:=w) (w.heap.size+1+1+1+1) dL dI b1 b2;obtain ⟨ya,yp,rfl,_⟩:=aV.seg;obtain ⟨yb,yq,rfl,_⟩:=aX.seg))
    all_goals go_wp2
    all_goals (refine rE Tryz.results201 rfl (az x.1 (.slice ya x.1.cells.length yp) (.slice yb x.1.words.length yq) tY) rfl (aj x.2.1 tY) ⟨⟨_,_,rfl,?_,?_,dP,dQ⟩,by exact zN⟩)
    all_goals (first|exact zP aV aV aI|skip)
    all_goals (first|exact zP aX aX aJ|skip)
theorem A8 (c:Ch) (h:Ha) (v1 v2:Value) (lo:Nat) (w:World) (h1:ag w lo v1 c.cells) (h2:ai w lo v2 c.words) (hc0:0≤h.cell) (hc1:h.cell<c.cells.length) (hso:h.seen=0) (hx:h.cell<h.come) (ht:bn c h.cell h.seen 2 0=true) :
    Calls Tryz.prog 201 #[.agg (af c v1 v2),.agg (aa h)] w fun r w'=>cz w w' lo v1 v2 (iK c h) r:=(q8 c h v1 v2 lo w h1 h2 hc0 hc1 hso).1 hx ht
theorem A9 (c:Ch) (h:Ha) (v1 v2:Value) (lo:Nat) (w:World) (h1:ag w lo v1 c.cells) (h2:ai w lo v2 c.words) (hc0:0≤h.cell) (hc1:h.cell<c.cells.length) (hso:h.seen=0) (hx:h.come≤h.cell) (hy:h.cell<h.fin) (ht:bn c h.cell h.seen 2 0=true) :
    Calls Tryz.prog 201 #[.agg (af c v1 v2),.agg (aa h)] w fun r w'=>cz w w' lo v1 v2 (iK c h) r:=(q8 c h v1 v2 lo w h1 h2 hc0 hc1 hso).2 hx hy ht
end Go.Proofs.YtffhjmepfojhnaaGreat
