/-
  Laying what is sent into a cell, of the reference model, on hands and channels that are kept whole; lists lie in memory and hold at most 2 ^ 40 elements.
-/
import Derived.Test.YtffhjmepfojhnaaGreatP05
import Derived.Test.YtffhjmepfojhnaaGreatP04
import Derived.Deep.RegionLaw
import Derived.Test.YtffhjmepfojhnaaGreatP09
import Derived.Test.YtffhjmepfojhnaaGreatP06
set_option maxRecDepth 100000
set_option maxHeartbeats 2000000
set_option linter.unusedSimpArgs false
set_option linter.unusedVariables false
namespace Go.Proofs.YtffhjmepfojhnaaGreat
section
open Go.RowKit
attribute [local simp] aI
attribute [local go_sem ↓] aH aU aM bz aN bB aA aK ax aB
theorem H6 (c:Ch) (i m:Int) (a b:Value):af (yg c i m) a b=af c a b:=rfl
theorem ER (c:Ch) (i m:Int):(yg c i m).words=c.words:=rfl
theorem Kt (c:Ch) (h:Ha) (a b:Option Addr) (p q:Nat) (w:World) (h1:eY w w.heap.size a c.cells) (z1:a=none→p=0) (h2:eZ w w.heap.size b c.words) (z2:b=none→q=0) (hk:aX c h 1 8 1=true) (hp0:h.pos=2) :
  Calls Tryz.prog 189 #[.agg (af c (.slice a c.cells.length p) (.slice b c.words.length q)),.agg (aa h)] w fun r w'=>bQ w w' (bK c h) r:=by
 obtain ⟨k1,k2,_,_⟩:=bu hk
 obtain ⟨n1,n2⟩:=dM k1
 have m1:c.cells.length≤1099511627776:=by omega
 have m2:c.words.length≤1099511627776:=by omega
 have H1:=Lib.hid h1
 have H2:=Lib.hid h2
 have Z1:=Lib.hid z1
 have Z2:=Lib.hid z2
 obtain ⟨c1,c2⟩:=fE k2
 obtain ⟨i,hci⟩:∃ i:Nat,h.cell=(i:Int):=⟨h.cell.toNat,by omega⟩
 have hi:i<c.cells.length:=by omega
 have e:bK c h=done (yg c i h.elem) { h with pos:=3,cell:=(i:Int) }:=by simp [bK,hk,hp0,hci,Gq] <;> rfl
 rw [e]
 have D:=fun v1 v2 W=>aW (yg c i h.elem) { h with pos:=3,cell:=(i:Int) } v1 v2 w.heap.size W
 have hlc:(yg c i h.elem).cells=c.cells.set i ⟨(c.cells.getD i ⟨0,0,0⟩).s,mo (c.cells.getD i ⟨0,0,0⟩).s (c.cells.getD i ⟨0,0,0⟩).e (c.cells.getD i ⟨0,0,0⟩).t h.elem,(c.cells.getD i ⟨0,0,0⟩).t⟩:=by simp [yg,setAt,cellAt]
 rw [hlc] at D
 simp only [H6,ER] at D
 generalize done (yg c i h.elem) { h with pos:=3,cell:=(i:Int) }=x at *
 clear hlc
 replace D:=Lib.hid D
 clear h1 h2 z1 z2 e k1 k2 n1 n2 c1 c2
 go_enter Tryz.func189,Tryz.ntmps189
 go_wp2_with fail;refine au w zB fun bb=>?_;refine (bZ c h 1 8 1 a b p q _ (aT H1 bb) (aT H2 bb)).mono ?_;rintro _ w1 ⟨rfl,ag⟩;obtain ⟨aV,ak,zz⟩:=dV bb ag (b:=w.heap.size);(try simp at ak);(try simp [go_sem] at zz);replace bX:=dx zz;clear zz ag bb
 rw [hk]
 go_wp2_with fail;refine au w zB fun bb=>?_;refine (cO c a b p q _ (aT H1 bb) Z1.out (aT H2 bb) Z2.out m1 m2).mono ?_;rintro _ w2 ⟨⟨v1,v2,rfl,o1,o2⟩,hbw2⟩;obtain ⟨dh,aR,zz⟩:=dV bb hbw2 (b:=w.heap.size);(try simp at aR);(first|simp [go_sem,bX] at zz|simp [go_sem] at zz|skip);replace bX:=dx zz;clear zz hbw2 bb
 have d1:=iH o1 (w.heap.size+1+1+1+1)
 have d2:=iH o2 (w.heap.size+1+1+1+1)
 have p1:=ay (lo':=w.heap.size) o1 tO
 have p2:=ay (lo':=w.heap.size) o2 tO
 obtain ⟨a1,q1,rfl,_⟩:=o1.seg
 obtain ⟨a2,q2,rfl,_⟩:=o2.seg
 have nw:∀ j,(j<w.heap.size+1+1+1+1∨w2.heap.size≤j)→some j≠(Value.slice a1 c.cells.length q1).ownBlock:=fun j hj e=>by have:=d1 _ e.symm;have:=(o1.lt _ e.symm).2;omega
 have LV:=nw (w.heap.size) tO
 have JU:=nw (w.heap.size+1) tO
 have JV:=nw (w.heap.size+1+1) tO
 have Lr:=nw (w.heap.size+1+1+1) tO
 have MN:=nw w2.heap.size tO
 obtain ⟨k0,k1,k2,k3⟩:=jW (a:=w.heap.size) (b:=w2.heap.size)
 obtain ⟨g,cap,hv,hlo,hlt,hcell,hfr⟩:=o1.open1 hi
 simp at hv
 obtain ⟨rfl,rfl⟩:=hv
 have HO:=Lib.hid o1
 have HP:=Lib.hid p1
 generalize c.cells.getD i ⟨0,0,0⟩=x0 at *
 obtain ⟨s,e,t⟩:=x0
 have g0:=hcell 0 tO
 have g1:=hcell 1 tO
 have g2:=hcell 2 tO
 simp only [C3.val,Nat.add_zero] at g0 g1 g2
 have hi0:(0:Int)≤(i:Int):=by omega
 have hi1:(i:Int)<(c.cells.length:Int):=by omega
 have Nl:∀ j,(j<w.heap.size+1+1+1+1∨w2.heap.size≤j)→g≠j:=fun j hj e=>nw j hj (by simp [Value.ownBlock,e])
 have xV:=Nl w.heap.size tO
 have xW:=Nl (w.heap.size+1) tO
 have xX:=Nl (w.heap.size+1+1) tO
 have xY:=Nl (w.heap.size+1+1+1) tO
 have QO:=Nl w2.heap.size tO
 have hg2:=ah.ne o1 o2 g (by simp [Value.ownBlock])
 clear hcell o1 p1
 go_wp2_with fail
 refine wp_region_held_drew (S:=fun w'=>w'.cell? ⟨w2.heap.size,4,none⟩=some (.slice (some ⟨g,0,none⟩) c.cells.length q1)∧w'.cell? ⟨w.heap.size+1,3,none⟩=some (.int .i64 i)∧w'.cell? ⟨w.heap.size+1,2,none⟩=some (.int .i64 h.elem)) (by kernel_rfl) (by simp [*,go_sem]) (fun hS0=>?_)
 refine mT (i:=0) (oi:=⟨some 43,_,_,_,_,_⟩) rfl ?_;(try simp only [Act.put,List.setIfInBounds_toArray,List.set_cons_zero,List.set_cons_succ])
 refine mT (i:=1) (oi:=⟨some 44,_,_,_,_,_⟩) rfl ?_;(try simp only [Act.put,List.setIfInBounds_toArray,List.set_cons_zero,List.set_cons_succ])
 refine mT (i:=2) (oi:=⟨some 45,_,_,_,_,_⟩) rfl ?_;(try simp only [Act.put,List.setIfInBounds_toArray,List.set_cons_zero,List.set_cons_succ])
 refine mT (i:=3) (oi:=⟨some 46,_,_,_,_,_⟩) rfl ?_;(try simp only [Act.put,List.setIfInBounds_toArray,List.set_cons_zero,List.set_cons_succ])
 refine mT (i:=4) (oi:=⟨some 47,_,_,_,_,_⟩) rfl ?_;(try simp only [Act.put,List.setIfInBounds_toArray,List.set_cons_zero,List.set_cons_succ])
 refine mT (i:=5) (oi:=⟨some 48,_,_,_,_,_⟩) rfl ?_;(try simp only [Act.put,List.setIfInBounds_toArray,List.set_cons_zero,List.set_cons_succ])
 refine mT (i:=6) (oi:=⟨some 49,_,_,_,_,_⟩) rfl ?_;(try simp only [Act.put,List.setIfInBounds_toArray,List.set_cons_zero,List.set_cons_succ])
 refine mT (i:=7) (oi:=⟨some 50,_,_,_,_,_⟩) rfl ?_;(try simp only [Act.put,List.setIfInBounds_toArray,List.set_cons_zero,List.set_cons_succ])
 refine mT (i:=8) (oi:=⟨some 51,_,_,_,_,_⟩) rfl ?_;(try simp only [Act.put,List.setIfInBounds_toArray,List.set_cons_zero,List.set_cons_succ])
 refine mT (i:=10) (oi:=⟨some 53,_,_,_,_,_⟩) rfl ?_;(try simp only [Act.put,List.setIfInBounds_toArray,List.set_cons_zero,List.set_cons_succ])
 refine mT (i:=11) (oi:=⟨some 54,_,_,_,_,_⟩) rfl ?_;(try simp only [Act.put,List.setIfInBounds_toArray,List.set_cons_zero,List.set_cons_succ])
 refine mT (i:=12) (oi:=⟨some 55,_,_,_,_,_⟩) rfl ?_;(try simp only [Act.put,List.setIfInBounds_toArray,List.set_cons_zero,List.set_cons_succ])
 refine wpAnyH_ready (rs:=[9]) (by kernel_rfl) (by simp) ?_
 refine AllReadyH.cons (o:=⟨some 52,_,_,_,_,_⟩) rfl (fun K hK=>?_) AllReadyH.nil
 go_simp
 refine hK.out _ _ hS0 (fun Qe=>?_)
 clear hK
 (try simp only [Act.put,List.setIfInBounds_toArray,List.set_cons_zero,List.set_cons_succ])
 refine wpAnyH_ready (rs:=[13]) (by kernel_rfl) (by simp) ?_
 refine AllReadyH.cons (o:=⟨some 56,_,_,_,_,_⟩) rfl (fun K hK=>?_) AllReadyH.nil
 go_simp
 go_at_call 199
 refine (E9 s e t h.elem _).mono ?_
 rintro _ w4 ⟨rfl,d9⟩
 have kI:Below w.heap.size w w4:=bT zB d9
 have mP:Below w2.heap.size w2 w4:=bT zB d9
 have y0:=(mP.cell (p:=⟨g,i*3,none⟩) hlt).trans g0
 have y1:=(mP.cell (p:=⟨g,i*3+1,none⟩) hlt).trans g1
 have y2:=(mP.cell (p:=⟨g,i*3+2,none⟩) hlt).trans g2
 have yf:=fun o=>(mP.frozen (p:=⟨g,o,none⟩) hlt).trans (hfr o)
 have gu:=d9.size;(try simp at gu);have zz:=And.intro (hQ d9 (b:=w2.heap.size)) <| And.intro (hQ d9 (b:=w.heap.size+1+1+1)) <| And.intro (hQ d9 (b:=w.heap.size+1+1)) <| And.intro (hQ d9 (b:=w.heap.size+1)) <| hQ d9 (b:=w.heap.size);(first|simp [go_sem,bX,k0,k1,k2,k3] at zz|simp [go_sem] at zz|skip);replace bX:=jb zz;clear zz d9
 refine hK.out _ _ (by simp [*,go_sem]) (fun Qf=>?_)
 clear hK
 (try simp only [Act.put,List.setIfInBounds_toArray,List.set_cons_zero,List.set_cons_succ])
 refine mT (i:=14) (oi:=⟨some 57,_,_,_,_,_⟩) rfl ?_;(try simp only [Act.put,List.setIfInBounds_toArray,List.set_cons_zero,List.set_cons_succ])
 refine wpAnyH_ready (rs:=[15]) (by kernel_rfl) (by simp) ?_
 refine AllReadyH.cons (o:=⟨none,_,_,_,_,_⟩) rfl (fun K hK=>?_) AllReadyH.nil
 go_simp
 refine hK.out _ _ (by simp [*,go_sem]) (fun hS5=>?_)
 clear hK
 (try simp only [Act.put,List.setIfInBounds_toArray,List.set_cons_zero,List.set_cons_succ])
 refine wpAnyH_done (by kernel_rfl) ?_ _
 obtain ⟨w5,kr⟩:∃ w5,w5=((w4.setCell ⟨g,i*3,none⟩ (.int .i64 s)).setCell ⟨g,i*3+1,none⟩ (.int .i64 (mo s e t h.elem))).setCell ⟨g,i*3+2,none⟩ (.int .i64 t):=⟨_,rfl⟩
 have r1:ah w5 w1.heap.size (.slice (some ⟨g,0,none⟩) c.cells.length q1) (c.cells.set i ⟨s,mo s e t h.elem,t⟩):=by rw [kr];simpa using ah.set (own_below HO.out mP) hi ⟨s,mo s e t h.elem,t⟩
 have r2:ai w5 w1.heap.size (.slice a2 c.words.length q2) c.words:=by rw [kr];exact bP (bP (bP (own_below o2 mP) hg2 _) hg2 _) hg2 _
 have mD:w4.grownBy w5 (Value.slice (some ⟨g,0,none⟩) c.cells.length q1).ownBlock:=by rw [kr];exact gS (gS (gS (gR _ _) (.inl rfl)) (.inl rfl)) (.inl rfl)
 rw [← kr]
 clear kr
 have gK:=mD.size;(try (simp at gK));have zz:=And.intro (dN mD (b:=w2.heap.size) tS (by assumption)) <| And.intro (dN mD (b:=w.heap.size+1+1+1) tS (by assumption)) <| And.intro (dN mD (b:=w.heap.size+1+1) tS (by assumption)) <| And.intro (dN mD (b:=w.heap.size+1) tS (by assumption)) <| dN mD (b:=w.heap.size) tS (by assumption);(first|simp [go_sem,bX,k0,k1,k2,k3] at zz|simp [go_sem] at zz|skip);replace bX:=jb zz;clear zz
 have mE:Below w.heap.size w w5:=lI kI mD tO (fun k hk=>by have:=d1 k hk;omega)
 clear mD y0 y1 y2 yf hS0 Qe Qf hS5
 have s1:=ay (lo':=w.heap.size) r1 tO
 have s2:=ay (lo':=w.heap.size) r2 tO
 go_wp2_with fail;refine au w zB fun bb=>?_;refine (D.out _ _ _ (zO s1 r1) (zO s2 r2)).mono ?_;rintro _ w3 ⟨⟨y1,y2,rfl,aO,aQ,dH,dF⟩,aC⟩;obtain ⟨iG,bM,zz⟩:=dV bb aC (b:=w.heap.size);(try simp at bM);(first|simp [go_sem,bX,k0,k1,k2,k3] at zz|simp [go_sem] at zz|skip);replace bX:=dx zz;clear zz aC bb
 obtain ⟨⟨aD,aF⟩,dQ,dR⟩:=kH (w:=w) (w.heap.size+1+1+1+1) dH dF d1 d2;obtain ⟨ya,yp,rfl,_⟩:=aO.seg;obtain ⟨yb,yq,rfl,_⟩:=aQ.seg
 go_wp2
 refine rE Tryz.results189 rfl (az x.1 (.slice ya x.1.cells.length yp) (.slice yb x.1.words.length yq) tY) rfl (aj x.2.1 tY) ⟨⟨_,_,rfl,?_,?_,dQ,dR⟩,by exact zB⟩
 ·exact zP aO aO aD
 ·exact zP aQ aQ aF
end
section
open Go.RowKit
attribute [local simp] aI
attribute [local go_sem ↓] aH aU aM bz aN bB aA aK ax aB
end
section
open Go.RowKit
attribute [local simp] aI
attribute [local go_sem ↓] aH aU aM bz aN bB aA aK ax aB
end
section
open Go.RowKit
attribute [local simp] aI
attribute [local go_sem ↓] aH aU aM bz aN bB aA aK ax aB
theorem jh (c:Ch) (i st:Int) (a b:Value):af (bH c i st) a b=af c a b:=rfl
theorem iQ (c:Ch) (i st:Int):(bH c i st).words=c.words:=rfl
theorem lq {h:Ha} (e:bF h=true):0≤h.grow∧h.grow≤39:=by
 simp [bF,uX,dL] at e
 omega
theorem Ku (c:Ch) (h:Ha) (a b:Option Addr) (p q:Nat) (w:World) (h1:eY w w.heap.size a c.cells) (z1:a=none→p=0) (h2:eZ w w.heap.size b c.words) (z2:b=none→q=0) (hk:aX c h 1 8 1=true) (hp0:h.pos=8) :
  Calls Tryz.prog 189 #[.agg (af c (.slice a c.cells.length p) (.slice b c.words.length q)),.agg (aa h)] w fun r w'=>bQ w w' (bK c h) r:=by
 obtain ⟨k1,k2,_,_⟩:=bu hk
 obtain ⟨n1,n2⟩:=dM k1
 have m1:c.cells.length≤1099511627776:=by omega
 have m2:c.words.length≤1099511627776:=by omega
 have H1:=Lib.hid h1
 have H2:=Lib.hid h2
 have Z1:=Lib.hid z1
 have Z2:=Lib.hid z2
 obtain ⟨c1,c2⟩:=fE k2
 obtain ⟨i,hci⟩:∃ i:Nat,h.cell=(i:Int):=⟨h.cell.toNat,by omega⟩
 have hi:i<c.cells.length:=by omega
 have e:bK c h=done (bH c i 7) (aS 1 0):=by simp [bK,hk,hp0,hci]
 rw [e]
 have ST:=Lib.hid fun v1 v2 W=>iM c i 7 v1 v2 w.heap.size W
 have D:=fun v1 v2 W=>aW (bH c i 7) (aS 1 0) v1 v2 w.heap.size W
 simp only [jh,iQ] at D
 generalize done (bH c i 7) (aS 1 0)=x at *
 replace D:=Lib.hid D
 clear h1 h2 z1 z2 e k1 k2 n1 n2 c1 c2
 go_enter Tryz.func189,Tryz.ntmps189
 go_wp2_with fail;refine au w zB fun bb=>?_;refine (bZ c h 1 8 1 a b p q _ (aT H1 bb) (aT H2 bb)).mono ?_;rintro _ w1 ⟨rfl,ag⟩;obtain ⟨aV,ak,zz⟩:=dV bb ag (b:=w.heap.size);(try simp at ak);(try simp [go_sem] at zz);replace bX:=dx zz;clear zz ag bb
 rw [hk]
 go_wp2_with fail;refine au w zB fun bb=>?_;refine (cO c a b p q _ (aT H1 bb) Z1.out (aT H2 bb) Z2.out m1 m2).mono ?_;rintro _ w2 ⟨⟨v1,v2,rfl,o1,o2⟩,hbw2⟩;obtain ⟨dh,aR,zz⟩:=dV bb hbw2 (b:=w.heap.size);(try simp at aR);(first|simp [go_sem,bX] at zz|simp [go_sem] at zz|skip);replace bX:=dx zz;clear zz hbw2 bb
 have d1:=iH o1 (w.heap.size+1+1+1+1)
 have d2:=iH o2 (w.heap.size+1+1+1+1)
 have p1:=ay (lo':=w.heap.size) o1 tO
 have p2:=ay (lo':=w.heap.size) o2 tO
 obtain ⟨a1,q1,rfl,_⟩:=o1.seg
 obtain ⟨a2,q2,rfl,_⟩:=o2.seg
 have nw:∀ j,(j<w.heap.size+1+1+1+1∨w2.heap.size≤j)→some j≠(Value.slice a1 c.cells.length q1).ownBlock:=fun j hj e=>by have:=d1 _ e.symm;have:=(o1.lt _ e.symm).2;omega
 have LV:=nw (w.heap.size) tO
 have JU:=nw (w.heap.size+1) tO
 have JV:=nw (w.heap.size+1+1) tO
 have Lr:=nw (w.heap.size+1+1+1) tO
 have MN:=nw w2.heap.size tO
 go_wp2_with fail
 refine (ST.out _ _ _ (zO p1 o1) (zO p2 o2) hi).mono ?_
 rintro _ w4 ⟨rfl,s1,s2,fw⟩
 have gu:=fw.size;(try (simp at gu));have zz:=And.intro (dN fw (b:=w2.heap.size) tS (by assumption)) <| And.intro (dN fw (b:=w.heap.size+1+1+1) tS (by assumption)) <| And.intro (dN fw (b:=w.heap.size+1+1) tS (by assumption)) <| And.intro (dN fw (b:=w.heap.size+1) tS (by assumption)) <| dN fw (b:=w.heap.size) tS (by assumption);(first|simp [go_sem,bX] at zz|simp [go_sem] at zz|skip);replace bX:=jb zz;clear zz
 have kI:Below w.heap.size w w4:=lI zB fw tS (fun k hk=>by have:=d1 k hk;omega)
 clear fw
 go_wp2_with fail;refine au w zB fun bb=>?_;refine au w4 zB fun bk=>?_;refine (fB _ _ _).mono ?_;rintro _ w5 ⟨rfl,bU⟩;obtain ⟨mE,gK,zz⟩:=dV bb bU (b:=w.heap.size);(try simp at gK);(first|simp [go_sem,bX] at zz|simp [go_sem] at zz|skip);replace bX:=dx zz;clear zz;have gZ:=bT bk bU;clear bU bb bk
 have r1:=own_below s1 gZ
 have r2:=own_below s2 gZ
 go_wp2_with fail;refine au w zB fun bb=>?_;refine (D.out _ _ _ (zO r1 o1) (zO r2 o2)).mono ?_;rintro _ w3 ⟨⟨y1,y2,rfl,aO,aQ,dH,dF⟩,aC⟩;obtain ⟨iG,bM,zz⟩:=dV bb aC (b:=w.heap.size);(try simp at bM);(first|simp [go_sem,bX] at zz|simp [go_sem] at zz|skip);replace bX:=dx zz;clear zz aC bb
 obtain ⟨⟨aD,aF⟩,dQ,dR⟩:=kH (w:=w) (w.heap.size+1+1+1+1) dH dF d1 d2;obtain ⟨ya,yp,rfl,_⟩:=aO.seg;obtain ⟨yb,yq,rfl,_⟩:=aQ.seg
 go_wp2
 refine rE Tryz.results189 rfl (az x.1 (.slice ya x.1.cells.length yp) (.slice yb x.1.words.length yq) tY) rfl (aj x.2.1 tY) ⟨⟨_,_,rfl,?_,?_,dQ,dR⟩,by exact zB⟩
 ·exact zP aO aO aD
 ·exact zP aQ aQ aF
end
section
open Go.RowKit
attribute [local simp] aI
attribute [local go_sem ↓] aH aU aM bz aN bB aA aK ax aB
theorem oo (h:Ha) (t:Int) (w:World):Calls Tryz.prog 206 #[.agg (aa h),.int .i64 t] w fun r w'=>r=.returned (.agg (aa (dI h t)))∧Below w.heap.size w w':=by
 go_enter Tryz.func206,Tryz.ntmps206
 go_wp2
 refine bodyPost_ret (gH Tryz.results206 rfl (aj (dI h t) (by simp [go_sem] <;> rfl))) rfl ⟨rfl,by exact zB⟩
theorem ib (h:Ha) (w:World):Calls Tryz.prog 209 #[.agg (aa h)] w fun r w'=>r=.returned (.agg (aa (df h)))∧Below w.heap.size w w':=by
 by_cases h0:h.nxt=0
 ·rw [show df h=aS 2 h.out by simp [df,h0]]
  go_enter Tryz.func209,Tryz.ntmps209
  go_wp2_with fail;refine au w zB fun bb=>?_;refine (fB 2 h.out _).mono ?_;rintro _ w1 ⟨rfl,ag⟩;obtain ⟨aV,ak,zz⟩:=Bj bb ag (b:=w.heap.size);(try simp at ak);(try simp [go_sem] at zz);replace bX:=xU zz;clear zz ag bb
  go_wp2
  refine bodyPost_ret (gH Tryz.results209 rfl (aj (aS 2 h.out) tZ)) rfl ⟨rfl,by exact zB⟩
 ·by_cases h1:h.nxt=1
  ·rw [show df h={ h with pos:=23 } by simp [df,h1]]
   go_enter Tryz.func209,Tryz.ntmps209
   go_wp2
   refine bodyPost_ret (gH Tryz.results209 rfl (aj { h with pos:=23 } (by simp [go_sem, *] <;> first|rfl|simp [*]))) rfl ⟨rfl,by exact zB⟩
  ·rw [show df h=anew h by simp [df,h0,h1]]
   have n0:(h.nxt == 0)=false:=by simpa using h0
   have n1:(h.nxt == 1)=false:=by simpa using h1
   clear h0 h1
   go_enter Tryz.func209,Tryz.ntmps209
   go_wp2_with fail;refine au w zB fun bb=>?_;refine (jf h _).mono ?_;rintro _ w1 ⟨rfl,ag⟩;obtain ⟨aV,ak,zz⟩:=Bj bb ag (b:=w.heap.size);(try simp at ak);(try simp [go_sem] at zz);replace bX:=xU zz;clear zz ag bb
   go_wp2
   refine bodyPost_ret (gH Tryz.results209 rfl (aj (anew h) tZ)) rfl ⟨rfl,by exact zB⟩
theorem lu {c:Ch} {h:Ha} {x:C3} (hx:cellAt c h.cell=x) (n:Int) (hn:x.s=n) :
  gz c h=if n == 0 then ({ dw h x with pos:=11 },true) else if n == 1 then ({ dw h x with pos:=11 },true) else if n == 2 then ({ dw h x with pos:=12 },true) else if n == 3 then ({ dw h x with pos:=12 },true) else if n == 9 then (anew (dw h x),true) else (dw h x,false):=by
 subst hn;subst hx;rfl
theorem Cj (c:Ch) (h:Ha) (a b:Option Addr) (p q:Nat) (w:World) (h1:eY w w.heap.size a c.cells) (hc0:0≤h.cell) (hc1:h.cell<c.cells.length) :
  Calls Tryz.prog 204 #[.agg (af c (.slice a c.cells.length p) (.slice b c.words.length q)),.agg (aa h)] w fun r w'=>r=.returned (.tuple #[.agg (aa (gz c h).1),.bool (gz c h).2])∧Below w.heap.size w w':=by
 obtain ⟨i,hci⟩:∃ i:Nat,h.cell=(i:Int):=⟨h.cell.toNat,by omega⟩
 have hi:i<c.cells.length:=by omega
 obtain ⟨bb,bo,rfl,hb,hcell⟩:∃ b' o,a=some ⟨b',o,none⟩∧b'<w.heap.size∧Hid (∀ j,j<3→w.cell? ⟨b',o+i*3+j,none⟩=some ((c.cells.getD i ⟨0,0,0⟩).val j)):=by
  rcases h1 with h0|⟨b',o',e,h1,h2⟩
  ·omega
  ·exact ⟨b',o',e,h1,fun j hj=>by simpa [eT] using h2 i j hi hj⟩
 clear h1
 have c0:=hcell.out 0 tO
 have c1:=hcell.out 1 tO
 have c2:=hcell.out 2 tO
 have hx:Hid (cellAt c h.cell=c.cells.getD i ⟨0,0,0⟩):=by simp [cellAt,Hid,hci]
 clear hcell
 generalize c.cells.getD i ⟨0,0,0⟩=x at *
 obtain ⟨s,e,t⟩:=x
 simp only [C3.val,Nat.add_zero] at c0 c1 c2
 have hi0:(0:Int)≤(i:Int):=by omega
 have hi1:(i:Int)<(c.cells.length:Int):=by omega
 have hb1:bb<w.heap.size+1:=by omega
 have hb2:bb<w.heap.size+1+1:=by omega
 have hb3:bb<w.heap.size+1+1+1:=by omega
 have hne:bb≠w.heap.size:=by omega
 have hne1:bb≠w.heap.size+1:=by omega
 have hne2:bb≠w.heap.size+1+1:=by omega
 have OL:bb≠w.heap.size+1+1+1:=by omega
 by_cases hn:s=0∨s=1∨s=2∨s=3∨s=9
 ·rcases hn with rfl|rfl|rfl|rfl|rfl
  ·rw [show gz c h=({ dw h ⟨0,e,t⟩ with pos:=11 },true) from lu hx.out 0 rfl]
   go_enter Tryz.func204,Tryz.ntmps204
   go_wp2
   refine bodyPost_ret (iF Tryz.results204 rfl (aj ({ dw h ⟨0,e,t⟩ with pos:=11 }) (by simp [go_sem, *] <;> first|rfl|simp [dw,anew,hci]))) rfl ⟨rfl,by exact zB⟩
  ·rw [show gz c h=({ dw h ⟨1,e,t⟩ with pos:=11 },true) from lu hx.out 1 rfl]
   go_enter Tryz.func204,Tryz.ntmps204
   go_wp2
   refine bodyPost_ret (iF Tryz.results204 rfl (aj ({ dw h ⟨1,e,t⟩ with pos:=11 }) (by simp [go_sem, *] <;> first|rfl|simp [dw,anew,hci]))) rfl ⟨rfl,by exact zB⟩
  ·rw [show gz c h=({ dw h ⟨2,e,t⟩ with pos:=12 },true) from lu hx.out 2 rfl]
   go_enter Tryz.func204,Tryz.ntmps204
   go_wp2
   refine bodyPost_ret (iF Tryz.results204 rfl (aj ({ dw h ⟨2,e,t⟩ with pos:=12 }) (by simp [go_sem, *] <;> first|rfl|simp [dw,anew,hci]))) rfl ⟨rfl,by exact zB⟩
  ·rw [show gz c h=({ dw h ⟨3,e,t⟩ with pos:=12 },true) from lu hx.out 3 rfl]
   go_enter Tryz.func204,Tryz.ntmps204
   go_wp2
   refine bodyPost_ret (iF Tryz.results204 rfl (aj ({ dw h ⟨3,e,t⟩ with pos:=12 }) (by simp [go_sem, *] <;> first|rfl|simp [dw,anew,hci]))) rfl ⟨rfl,by exact zB⟩
  ·rw [show gz c h=(anew (dw h ⟨9,e,t⟩),true) from lu hx.out 9 rfl]
   go_enter Tryz.func204,Tryz.ntmps204
   go_wp2_with fail;refine au w zB fun bb=>?_;refine (jf _ _).mono ?_;rintro _ w1 ⟨rfl,ag⟩;obtain ⟨aV,ak,zz⟩:=DX bb ag (b:=w.heap.size);(try simp at ak);(try simp [go_sem] at zz);replace bX:=DW zz;clear zz ag bb
   go_wp2
   refine bodyPost_ret (iF Tryz.results204 rfl (aj (anew (dw h ⟨9,e,t⟩)) (by simp [go_sem, *] <;> first|rfl|simp [dw,anew,hci]))) rfl ⟨rfl,by exact zB⟩
 ·have n0:(s == 0)=false:=by simp;omega
  have n1:(s == 1)=false:=by simp;omega
  have n2:(s == 2)=false:=by simp;omega
  have n3:(s == 3)=false:=by simp;omega
  have n9:(s == 9)=false:=by simp;omega
  rw [show gz c h=(dw h ⟨s,e,t⟩,false) from by rw [lu hx.out s rfl,n0,n1,n2,n3,n9];rfl]
  clear hn
  go_enter Tryz.func204,Tryz.ntmps204
  go_wp2
  refine bodyPost_ret (iF Tryz.results204 rfl (aj (dw h ⟨s,e,t⟩) (by simp [go_sem, *] <;> first|rfl|simp [dw,anew,hci]))) rfl ⟨rfl,by exact zB⟩
theorem oL {c:Ch} {h:Ha} {x:C3} (hx:cellAt c h.grow=x) (n:Int) (hn:x.s=n) :
  jG c h=if n == 0 then { bL h x with pos:=19 } else if n == 3 then { bL h x with pos:=19 } else if n == 9 then { bL h x with pos:=16 } else df (bL h x):=by
 subst hn;subst hx;rfl
theorem Ck (c:Ch) (h:Ha) (a b:Option Addr) (p q:Nat) (w:World) (h1:eY w w.heap.size a c.cells) (hc0:0≤h.grow) (hc1:h.grow<c.cells.length) :
  Calls Tryz.prog 210 #[.agg (af c (.slice a c.cells.length p) (.slice b c.words.length q)),.agg (aa h)] w fun r w'=>r=.returned (.agg (aa (jG c h)))∧Below w.heap.size w w':=by
 obtain ⟨i,hci⟩:∃ i:Nat,h.grow=(i:Int):=⟨h.grow.toNat,by omega⟩
 have hi:i<c.cells.length:=by omega
 obtain ⟨bb,bo,rfl,hb,hcell⟩:∃ b' o,a=some ⟨b',o,none⟩∧b'<w.heap.size∧Hid (∀ j,j<3→w.cell? ⟨b',o+i*3+j,none⟩=some ((c.cells.getD i ⟨0,0,0⟩).val j)):=by
  rcases h1 with h0|⟨b',o',e,h1,h2⟩
  ·omega
  ·exact ⟨b',o',e,h1,fun j hj=>by simpa [eT] using h2 i j hi hj⟩
 clear h1
 have c0:=hcell.out 0 tO
 have c2:=hcell.out 2 tO
 have hx:Hid (cellAt c h.grow=c.cells.getD i ⟨0,0,0⟩):=by simp [cellAt,Hid,hci]
 clear hcell
 generalize c.cells.getD i ⟨0,0,0⟩=x at *
 obtain ⟨s,e,t⟩:=x
 simp only [C3.val,Nat.add_zero] at c0 c2
 have hi0:(0:Int)≤(i:Int):=by omega
 have hi1:(i:Int)<(c.cells.length:Int):=by omega
 have hb1:bb<w.heap.size+1:=by omega
 have hb2:bb<w.heap.size+1+1:=by omega
 have hb3:bb<w.heap.size+1+1+1:=by omega
 have hne:bb≠w.heap.size:=by omega
 have hne1:bb≠w.heap.size+1:=by omega
 have hne2:bb≠w.heap.size+1+1:=by omega
 have OL:bb≠w.heap.size+1+1+1:=by omega
 by_cases hn:s=0∨s=3∨s=9
 ·rcases hn with rfl|rfl|rfl
  ·rw [show jG c h={ bL h ⟨0,e,t⟩ with pos:=19 } from oL hx.out 0 rfl]
   go_enter Tryz.func210,Tryz.ntmps210
   go_wp2
   refine bodyPost_ret (gH Tryz.results210 rfl (aj ({ bL h ⟨0,e,t⟩ with pos:=19 }) (by simp [go_sem, *] <;> first|rfl|simp [bL,anew,hci]))) rfl ⟨rfl,by exact zB⟩
  ·rw [show jG c h={ bL h ⟨3,e,t⟩ with pos:=19 } from oL hx.out 3 rfl]
   go_enter Tryz.func210,Tryz.ntmps210
   go_wp2
   refine bodyPost_ret (gH Tryz.results210 rfl (aj ({ bL h ⟨3,e,t⟩ with pos:=19 }) (by simp [go_sem, *] <;> first|rfl|simp [bL,anew,hci]))) rfl ⟨rfl,by exact zB⟩
  ·rw [show jG c h={ bL h ⟨9,e,t⟩ with pos:=16 } from oL hx.out 9 rfl]
   go_enter Tryz.func210,Tryz.ntmps210
   go_wp2
   refine bodyPost_ret (gH Tryz.results210 rfl (aj ({ bL h ⟨9,e,t⟩ with pos:=16 }) (by simp [go_sem, *] <;> first|rfl|simp [bL,anew,hci]))) rfl ⟨rfl,by exact zB⟩
 ·have n0:(s == 0)=false:=by simp;omega
  have n3:(s == 3)=false:=by simp;omega
  have n9:(s == 9)=false:=by simp;omega
  rw [show jG c h=df (bL h ⟨s,e,t⟩) from by rw [oL hx.out s rfl,n0,n3,n9];rfl]
  clear hn
  go_enter Tryz.func210,Tryz.ntmps210
  go_wp2_with fail;refine au w zB fun bb=>?_;refine (ib _ _).mono ?_;rintro _ w1 ⟨rfl,ag⟩;obtain ⟨aV,ak,zz⟩:=DX bb ag (b:=w.heap.size);(try simp at ak);(try simp [go_sem] at zz);replace bX:=DW zz;clear zz ag bb
  go_wp2
  refine bodyPost_ret (gH Tryz.results210 rfl (aj (df (bL h ⟨s,e,t⟩)) (by simp [go_sem, *] <;> first|rfl|simp [bL,anew,hci]))) rfl ⟨rfl,by exact zB⟩
end
section
open Go.RowKit
attribute [local simp] aI
attribute [local go_sem ↓] aH aU aM bz aN bB aA aK ax aB
theorem pG (c:Ch) (v x:Int) (a b:Value):af (dD c v x) a b=af c a b:=by unfold dD;split <;> rfl
theorem oq (c:Ch) (v x:Int):(dD c v x).cells=c.cells:=by unfold dD;split <;> rfl
theorem ah.zero {w:World} {lo n q:Nat} {a:Option Addr} {cs:List C3} (h:ah w lo (.slice a n q) cs) (e:a=none):q=0:=by
 subst e
 rcases h.2 with ⟨h1,_⟩|⟨g,cap,cur,h1,_⟩
 ·simp at h1;exact h1.2
 ·simp at h1
theorem ai.zero {w:World} {lo n q:Nat} {a:Option Addr} {l:List Int} (h:ai w lo (.slice a n q) l) (e:a=none):q=0:=by
 subst e
 rcases h.2 with ⟨h1,_⟩|⟨g,cap,cur,h1,_⟩
 ·simp at h1;exact h1.2
 ·simp at h1
theorem ah.segAt {w:World} {lo q:Nat} {a:Option Addr} {cs:List C3} (h:ah w lo (.slice a cs.length q) cs):eY w w.heap.size a cs:=by
 obtain ⟨a',q',e,hs⟩:=h.seg
 simp at e
 obtain ⟨rfl,rfl⟩:=e
 exact hs
theorem ai.segAt {w:World} {lo q:Nat} {a:Option Addr} {l:List Int} (h:ai w lo (.slice a l.length q) l):eZ w w.heap.size a l:=by
 obtain ⟨a',q',e,hs⟩:=h.seg
 simp at e
 obtain ⟨rfl,rfl⟩:=e
 exact hs
theorem Kv (c:Ch) (h:Ha) (a b:Option Addr) (p q:Nat) (w:World) (h1:eY w w.heap.size a c.cells) (z1:a=none→p=0) (h2:eZ w w.heap.size b c.words) (z2:b=none→q=0) (hk:aX c h 1 8 1=true) (hp0:h.pos=7) :
  Calls Tryz.prog 189 #[.agg (af c (.slice a c.cells.length p) (.slice b c.words.length q)),.agg (aa h)] w fun r w'=>bQ w w' (bK c h) r:=by
 have e:bK c h=done (dD c h.wait 1) (mq c h).2:=by simp [bK,hk,hp0,mq]
 rw [e]
 obtain ⟨k1,k2,_,_⟩:=bu hk
 obtain ⟨n1,n2⟩:=dM k1
 have m1:c.cells.length≤1099511627776:=by omega
 have m2:c.words.length≤1099511627776:=by omega
 have H1:=Lib.hid h1
 have H2:=Lib.hid h2
 have Z1:=Lib.hid z1
 have Z2:=Lib.hid z2
 have D:=fun v1 v2 W=>aW (dD c h.wait 1) (mq c h).2 v1 v2 w.heap.size W
 have K:=Lib.hid fun a b p q W=>BB c h a b p q W
 simp only [pG,oq] at D
 generalize done (dD c h.wait 1) (mq c h).2=x at *
 generalize (mq c h).2=y at *
 generalize (dD c h.wait 1).words=tw at *
 replace D:=Lib.hid D
 clear h1 h2 z1 z2 e k1 k2 n1 n2
 go_enter Tryz.func189,Tryz.ntmps189
 go_wp2_with fail;refine au w zB fun bb=>?_;refine (bZ c h 1 8 1 a b p q _ (aT H1 bb) (aT H2 bb)).mono ?_;rintro _ w1 ⟨rfl,ag⟩;obtain ⟨aV,ak,zz⟩:=dV bb ag (b:=w.heap.size);(try simp at ak);(try simp [go_sem] at zz);replace bX:=dx zz;clear zz ag bb
 rw [hk]
 go_wp2_with fail;refine au w zB fun bb=>?_;refine (cO c a b p q _ (aT H1 bb) Z1.out (aT H2 bb) Z2.out m1 m2).mono ?_;rintro _ w2 ⟨⟨v1,v2,rfl,o1,o2⟩,hbw2⟩;obtain ⟨dh,aR,zz⟩:=dV bb hbw2 (b:=w.heap.size);(try simp at aR);(first|simp [go_sem,bX] at zz|simp [go_sem] at zz|skip);replace bX:=dx zz;clear zz hbw2 bb
 have d1:=iH o1 (w.heap.size+1+1+1+1)
 have d2:=iH o2 (w.heap.size+1+1+1+1)
 have p1:=ay (lo':=w.heap.size) o1 tO
 have p2:=ay (lo':=w.heap.size) o2 tO
 obtain ⟨a1,q1,rfl,_⟩:=o1.seg
 obtain ⟨a2,q2,rfl,_⟩:=o2.seg
 have za:=ah.zero o1
 have zb:=ai.zero o2
 have ba:∀ j,j<w.heap.size+1+1+1+1→j<w1.heap.size:=fun j hj=>by omega
 have g1:=ah.segAt o1
 have g2:=ai.segAt o2
 have G1:=Lib.hid g1
 have G2:=Lib.hid g2
 clear g1 g2
 go_wp2_with fail;refine au w zB fun bb=>?_;refine (K.out _ _ _ _ _ ((G1.out.below zB).more tS) za ((G2.out.below zB).more tS) zb m1 m2).mono ?_;rintro _ w3 ⟨⟨v3,v4,rfl,o3,o4⟩,aC⟩;have iG:=bT bb aC;have bM:=aC.size;(try simp at bM);have zz:=And.intro (hQ aC (b:=w2.heap.size)) <| And.intro (hQ aC (b:=w.heap.size+1+1+1)) <| And.intro (hQ aC (b:=w.heap.size+1+1)) <| And.intro (hQ aC (b:=w.heap.size+1)) <| hQ aC (b:=w.heap.size);(first|simp [go_sem,bX] at zz|simp [go_sem] at zz|skip);replace bX:=jb zz;clear zz aC bb
 have d3:∀ j,v3.ownBlock=some j→w.heap.size+1+1+1+1≤j:=fun j hj=>by have:=(o3.lt j hj).1;simp at this;omega
 have d4:∀ j,v4.ownBlock=some j→w.heap.size+1+1+1+1≤j:=fun j hj=>by have:=(o4.lt j hj).1;simp at this;omega
 have p3:=ay (lo':=w.heap.size) o3 (by simp;omega)
 have p4:=ay (lo':=w.heap.size) o4 (by simp;omega)
 obtain ⟨a3,q3,rfl,_⟩:=o3.seg
 obtain ⟨a4,q9,rfl,_⟩:=o4.seg
 obtain ⟨k0,k1,k2,k3⟩:=jW (a:=w.heap.size) (b:=w2.heap.size)
 have OM:=fun j (h1:w.heap.size≤j) (h2:j<w2.heap.size+1)=>own_ne o3 (b:=j) (by simp;omega)
 have OO:=fun j (h1:w.heap.size≤j) (h2:j<w2.heap.size+1)=>own_ne o4 (b:=j) (by simp;omega)
 clear d1 d2
 have d1:=d3
 have d2:=d4
 go_wp2_with fail;refine au w zB fun bb=>?_;refine (D.out _ _ _ (zP p3 p3 OM) (zP p4 p4 OO)).mono ?_;rintro _ w5 ⟨⟨y1,y2,rfl,aO,aQ,dH,dF⟩,bU⟩;obtain ⟨mE,gK,zz⟩:=dV bb bU (b:=w.heap.size);(try simp at gK);(first|simp [go_sem,bX,k0,k1,k2,k3] at zz|simp [go_sem] at zz|skip);replace bX:=dx zz;clear zz bU bb
 obtain ⟨⟨aD,aF⟩,dQ,dR⟩:=kH (w:=w) (w.heap.size+1+1+1+1) dH dF d1 d2;obtain ⟨ya,yp,rfl,_⟩:=aO.seg;obtain ⟨yb,yq,rfl,_⟩:=aQ.seg
 go_wp2
 refine rE Tryz.results189 rfl (az x.1 (.slice ya x.1.cells.length yp) (.slice yb x.1.words.length yq) tY) rfl (aj x.2.1 tY) ⟨⟨_,_,rfl,?_,?_,dQ,dR⟩,by exact zB⟩
 ·exact zP aO aO aD
 ·exact zP aQ aQ aF
end
end Go.Proofs.YtffhjmepfojhnaaGreat
