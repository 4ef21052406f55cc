/-
  Steps of receiving of the reference model, on hands and channels that are kept whole; lists lie in memory and hold at most 2 ^ 40 elements.
-/
import Derived.Test.YtffhjmepfojhnaaGreatP10
import Derived.BigRegion
import Derived.Test.YtffhjmepfojhnaaGreatP05
set_option maxRecDepth 100000
set_option maxHeartbeats 4000000
set_option linter.unusedSimpArgs false
set_option linter.unusedVariables false
namespace Go.Proofs.YtffhjmepfojhnaaGreat
section
open Go.RowKit
attribute [local simp] aI
attribute [local go_sem ↓] aH aU aM bz aN bB aA aK ax aB
theorem H7 (c:Ch) (h:Ha) (a b:Option Addr) (p q:Nat) (w:World) (h1:eY w w.heap.size a c.cells) (h2:eZ w w.heap.size b c.words) (hk:aX c h 9 15 2=false) :
  Calls Tryz.prog 190 #[.agg (af c (.slice a c.cells.length p) (.slice b c.words.length q)),.agg (aa h)] w fun r w'=>bQ w w' (aP c h) r:=by
 have e:aP c h=nothing:=by simp [aP,hk]
 rw [e]
 have H1:=Lib.hid h1
 have H2:=Lib.hid h2
 have T:=Lib.hid fun W=>fQ W w.heap.size (.slice none 0 0) (.slice none 0 0)
 generalize nothing=x at *
 clear h1 h2 e
 have d1:∀ j,(Value.slice none 0 0).ownBlock=some j→w.heap.size+1+1+1+1≤j:=fun j hj=>by cases hj
 have d2:=d1
 go_enter Tryz.func190,Tryz.ntmps190
 go_wp2_with fail;refine au w zB fun bb=>?_;refine (bZ c h 9 15 2 a b p q _ (aT H1 bb) (aT H2 bb)).mono ?_;rintro _ w1 ⟨rfl,ag⟩;obtain ⟨aV,ak,zz⟩:=dV bb ag (b:=w.heap.size);(try simp at ak);(try simp [go_sem] at zz);replace bX:=dx zz;clear zz ag bb
 rw [hk]
 go_wp2_with fail;refine au w zB fun bb=>?_;refine (T.out _).mono ?_;rintro _ w2 ⟨⟨y1,y2,rfl,aO,aQ,dH,dF⟩,hbw2⟩;obtain ⟨dh,aR,zz⟩:=dV bb hbw2 (b:=w.heap.size);(try simp at aR);(first|simp [go_sem,bX] at zz|simp [go_sem] at zz|skip);replace bX:=dx zz;clear zz hbw2 bb
 obtain ⟨⟨aD,aF⟩,dQ,dR⟩:=kH (w:=w) (w.heap.size+1+1+1+1) dH dF d1 d2;obtain ⟨ya,yp,rfl,_⟩:=aO.seg;obtain ⟨yb,yq,rfl,_⟩:=aQ.seg
 go_wp2
 refine rE Tryz.results190 rfl (az x.1 (.slice ya x.1.cells.length yp) (.slice yb x.1.words.length yq) tY) rfl (aj x.2.1 tY) ⟨⟨_,_,rfl,?_,?_,dQ,dR⟩,by exact zB⟩
 ·exact zP aO aO aD
 ·exact zP aQ aQ aF
theorem H8 (c:Ch) (h:Ha) (a b:Option Addr) (p q:Nat) (w:World) (h1:eY w w.heap.size a c.cells) (z1:a=none→p=0) (h2:eZ w w.heap.size b c.words) (z2:b=none→q=0) (hk:aX c h 9 15 2=true) (hp0:h.pos=11) :
  Calls Tryz.prog 190 #[.agg (af c (.slice a c.cells.length p) (.slice b c.words.length q)),.agg (aa h)] w fun r w'=>bQ w w' (aP c h) r:=by
 obtain ⟨k1,k2,_,_⟩:=bu hk
 obtain ⟨n1,n2⟩:=dM k1
 have m1:c.cells.length≤1099511627776:=by omega
 have m2:c.words.length≤1099511627776:=by omega
 have H1:=Lib.hid h1
 have H2:=Lib.hid h2
 have Z1:=Lib.hid z1
 have Z2:=Lib.hid z2
 have e:aP c h=done (c) ({ h with come:=c.sent,pos:=12 }):=by simp [aP,hk,hp0]
 rw [e]
 have D:=Lib.hid fun v1 v2 W=>aW (c) ({ h with come:=c.sent,pos:=12 }) v1 v2 w.heap.size W
 generalize done (c) ({ h with come:=c.sent,pos:=12 })=x at *
 clear h1 h2 z1 z2 e k1 k2 n1 n2
 go_enter Tryz.func190,Tryz.ntmps190
 go_wp2_with fail;refine au w zB fun bb=>?_;refine (bZ c h 9 15 2 a b p q _ (aT H1 bb) (aT H2 bb)).mono ?_;rintro _ w1 ⟨rfl,ag⟩;obtain ⟨aV,ak,zz⟩:=dV bb ag (b:=w.heap.size);(try simp at ak);(try simp [go_sem] at zz);replace bX:=dx zz;clear zz ag bb
 rw [hk]
 go_wp2_with fail;refine au w zB fun bb=>?_;refine (cO c a b p q _ (aT H1 bb) Z1.out (aT H2 bb) Z2.out m1 m2).mono ?_;rintro _ w2 ⟨⟨v1,v2,rfl,o1,o2⟩,hbw2⟩;obtain ⟨dh,aR,zz⟩:=dV bb hbw2 (b:=w.heap.size);(try simp at aR);(first|simp [go_sem,bX] at zz|simp [go_sem] at zz|skip);replace bX:=dx zz;clear zz hbw2 bb
 have d1:=iH o1 (w.heap.size+1+1+1+1)
 have d2:=iH o2 (w.heap.size+1+1+1+1)
 have p1:=ay (lo':=w.heap.size) o1 tO
 have p2:=ay (lo':=w.heap.size) o2 tO
 obtain ⟨a1,q1,rfl,_⟩:=o1.seg
 obtain ⟨a2,q2,rfl,_⟩:=o2.seg
 go_wp2_with fail;refine au w zB fun bb=>?_;refine (D.out _ _ _ (zO p1 o1) (zO p2 o2)).mono ?_;rintro _ w3 ⟨⟨y1,y2,rfl,aO,aQ,dH,dF⟩,aC⟩;obtain ⟨iG,bM,zz⟩:=dV bb aC (b:=w.heap.size);(try simp at bM);(first|simp [go_sem,bX] at zz|simp [go_sem] at zz|skip);replace bX:=dx zz;clear zz aC bb
 obtain ⟨⟨aD,aF⟩,dQ,dR⟩:=kH (w:=w) (w.heap.size+1+1+1+1) dH dF d1 d2;obtain ⟨ya,yp,rfl,_⟩:=aO.seg;obtain ⟨yb,yq,rfl,_⟩:=aQ.seg
 go_wp2
 refine rE Tryz.results190 rfl (az x.1 (.slice ya x.1.cells.length yp) (.slice yb x.1.words.length yq) tY) rfl (aj x.2.1 tY) ⟨⟨_,_,rfl,?_,?_,dQ,dR⟩,by exact zB⟩
 ·exact zP aO aO aD
 ·exact zP aQ aQ aF
theorem H9 (c:Ch) (h:Ha) (a b:Option Addr) (p q:Nat) (w:World) (h1:eY w w.heap.size a c.cells) (z1:a=none→p=0) (h2:eZ w w.heap.size b c.words) (z2:b=none→q=0) (hk:aX c h 9 15 2=true) (hp0:h.pos=9) (hs:¬ c.got=40) (EC:0≤c.got∧c.got≤40) :
  Calls Tryz.prog 190 #[.agg (af c (.slice a c.cells.length p) (.slice b c.words.length q)),.agg (aa h)] w fun r w'=>bQ w w' (aP c h) r:=by
 obtain ⟨k1,k2,_,_⟩:=bu hk
 obtain ⟨n1,n2⟩:=dM k1
 have m1:c.cells.length≤1099511627776:=by omega
 have m2:c.words.length≤1099511627776:=by omega
 have H1:=Lib.hid h1
 have H2:=Lib.hid h2
 have Z1:=Lib.hid z1
 have Z2:=Lib.hid z2
 have e:aP c h=done ({ c with got:=c.got+1 }) ({ h with cell:=c.got,pos:=10 }):=by simp [aP,hk,hp0,vC,hs]
 rw [e]
 have D:=Lib.hid fun v1 v2 W=>aW ({ c with got:=c.got+1 }) ({ h with cell:=c.got,pos:=10 }) v1 v2 w.heap.size W
 generalize done ({ c with got:=c.got+1 }) ({ h with cell:=c.got,pos:=10 })=x at *
 clear h1 h2 z1 z2 e k1 k2 n1 n2
 go_enter Tryz.func190,Tryz.ntmps190
 go_wp2_with fail;refine au w zB fun bb=>?_;refine (bZ c h 9 15 2 a b p q _ (aT H1 bb) (aT H2 bb)).mono ?_;rintro _ w1 ⟨rfl,ag⟩;obtain ⟨aV,ak,zz⟩:=dV bb ag (b:=w.heap.size);(try simp at ak);(try simp [go_sem] at zz);replace bX:=dx zz;clear zz ag bb
 rw [hk]
 go_wp2_with fail;refine au w zB fun bb=>?_;refine (cO c a b p q _ (aT H1 bb) Z1.out (aT H2 bb) Z2.out m1 m2).mono ?_;rintro _ w2 ⟨⟨v1,v2,rfl,o1,o2⟩,hbw2⟩;obtain ⟨dh,aR,zz⟩:=dV bb hbw2 (b:=w.heap.size);(try simp at aR);(first|simp [go_sem,bX] at zz|simp [go_sem] at zz|skip);replace bX:=dx zz;clear zz hbw2 bb
 have d1:=iH o1 (w.heap.size+1+1+1+1)
 have d2:=iH o2 (w.heap.size+1+1+1+1)
 have p1:=ay (lo':=w.heap.size) o1 tO
 have p2:=ay (lo':=w.heap.size) o2 tO
 obtain ⟨a1,q1,rfl,_⟩:=o1.seg
 obtain ⟨a2,q2,rfl,_⟩:=o2.seg
 go_wp2_with fail;refine au w zB fun bb=>?_;refine (D.out _ _ _ (zO p1 o1) (zO p2 o2)).mono ?_;rintro _ w3 ⟨⟨y1,y2,rfl,aO,aQ,dH,dF⟩,aC⟩;obtain ⟨iG,bM,zz⟩:=dV bb aC (b:=w.heap.size);(try simp at bM);(first|simp [go_sem,bX] at zz|simp [go_sem] at zz|skip);replace bX:=dx zz;clear zz aC bb
 obtain ⟨⟨aD,aF⟩,dQ,dR⟩:=kH (w:=w) (w.heap.size+1+1+1+1) dH dF d1 d2;obtain ⟨ya,yp,rfl,_⟩:=aO.seg;obtain ⟨yb,yq,rfl,_⟩:=aQ.seg
 go_wp2
 refine rE Tryz.results190 rfl (az x.1 (.slice ya x.1.cells.length yp) (.slice yb x.1.words.length yq) tY) rfl (aj x.2.1 tY) ⟨⟨_,_,rfl,?_,?_,dQ,dR⟩,by exact zB⟩
 ·exact zP aO aO aD
 ·exact zP aQ aQ aF
theorem HY (c:Ch) (h:Ha) (a b:Option Addr) (p q:Nat) (w:World) (h1:eY w w.heap.size a c.cells) (z1:a=none→p=0) (h2:eZ w w.heap.size b c.words) (z2:b=none→q=0) (hk:aX c h 9 15 2=true) (hp0:h.pos=9) (hs:c.got=40) :
  Calls Tryz.prog 190 #[.agg (af c (.slice a c.cells.length p) (.slice b c.words.length q)),.agg (aa h)] w fun r w'=>bQ w w' (aP c h) r:=by
 obtain ⟨k1,k2,_,_⟩:=bu hk
 obtain ⟨n1,n2⟩:=dM k1
 have m1:c.cells.length≤1099511627776:=by omega
 have m2:c.words.length≤1099511627776:=by omega
 have H1:=Lib.hid h1
 have H2:=Lib.hid h2
 have Z1:=Lib.hid z1
 have Z2:=Lib.hid z2
 have e:aP c h=done c (aS 4 0):=by simp [aP,hk,hp0,vC,hs]
 rw [e]
 have D:=Lib.hid fun v1 v2 W=>aW (c) (aS 4 0) v1 v2 w.heap.size W
 generalize done c (aS 4 0)=x at *
 clear h1 h2 z1 z2 e k1 k2 n1 n2
 go_enter Tryz.func190,Tryz.ntmps190
 go_wp2_with fail;refine au w zB fun bb=>?_;refine (bZ c h 9 15 2 a b p q _ (aT H1 bb) (aT H2 bb)).mono ?_;rintro _ w1 ⟨rfl,ag⟩;obtain ⟨aV,ak,zz⟩:=dV bb ag (b:=w.heap.size);(try simp at ak);(try simp [go_sem] at zz);replace bX:=dx zz;clear zz ag bb
 rw [hk]
 go_wp2_with fail;refine au w zB fun bb=>?_;refine (cO c a b p q _ (aT H1 bb) Z1.out (aT H2 bb) Z2.out m1 m2).mono ?_;rintro _ w2 ⟨⟨v1,v2,rfl,o1,o2⟩,hbw2⟩;obtain ⟨dh,aR,zz⟩:=dV bb hbw2 (b:=w.heap.size);(try simp at aR);(first|simp [go_sem,bX] at zz|simp [go_sem] at zz|skip);replace bX:=dx zz;clear zz hbw2 bb
 have d1:=iH o1 (w.heap.size+1+1+1+1)
 have d2:=iH o2 (w.heap.size+1+1+1+1)
 have p1:=ay (lo':=w.heap.size) o1 tO
 have p2:=ay (lo':=w.heap.size) o2 tO
 obtain ⟨a1,q1,rfl,_⟩:=o1.seg
 obtain ⟨a2,q2,rfl,_⟩:=o2.seg
 go_wp2_with fail
 go_region_with (first|((go_at_call 130;refine au w zB fun bb=>?_;refine au w2 zB fun bk=>?_;refine (fB _ _ _).mono ?_;rintro _ w5 ⟨rfl,bU⟩;have mE:=bT bb bU;have gK:=bU.size;(try simp at gK);have zz:=And.intro (hQ bU (b:=w2.heap.size)) <| And.intro (hQ bU (b:=w.heap.size+1+1+1)) <| And.intro (hQ bU (b:=w.heap.size+1+1)) <| And.intro (hQ bU (b:=w.heap.size+1)) <| hQ bU (b:=w.heap.size);(first|simp [go_sem,bX] at zz|simp [go_sem] at zz|skip);replace bX:=jb zz;clear zz;have gZ:=bT bk bU;clear bU bb bk);have r1:=own_below p1 gZ;have r2:=own_below p2 gZ)|((go_at_call 198;refine au w zB fun bb=>?_;refine (D.out _ _ _ (zO r1 o1) (zO r2 o2)).mono ?_;rintro _ w3 ⟨⟨y1,y2,rfl,aO,aQ,dH,dF⟩,aC⟩;obtain ⟨iG,bM,zz⟩:=dV bb aC (b:=w.heap.size);(try simp at bM);(first|simp [go_sem,bX] at zz|simp [go_sem] at zz|skip);replace bX:=dx zz;clear zz aC bb);obtain ⟨⟨aD,aF⟩,dQ,dR⟩:=kH (w:=w) (w.heap.size+1+1+1+1) dH dF d1 d2;obtain ⟨ya,yp,rfl,_⟩:=aO.seg;obtain ⟨yb,yq,rfl,_⟩:=aQ.seg))
 all_goals go_wp2
 all_goals (refine rE Tryz.results190 rfl (az x.1 (.slice ya x.1.cells.length yp) (.slice yb x.1.words.length yq) tY) rfl (aj x.2.1 tY) ⟨⟨_,_,rfl,?_,?_,dQ,dR⟩,by exact zB⟩)
 all_goals (first|exact zP aO aO aD|skip)
 all_goals (first|exact zP aQ aQ aF|skip)
end
section
open Go.RowKit
attribute [local simp] aI
attribute [local go_sem ↓] aH aU aM bz aN bB aA aK ax aB
theorem HZ (c:Ch) (h:Ha) (a b:Option Addr) (p q:Nat) (w:World) (h1:eY w w.heap.size a c.cells) (z1:a=none→p=0) (h2:eZ w w.heap.size b c.words) (z2:b=none→q=0) (hk:aX c h 9 15 2=true) (hp0:h.pos=14) :
  Calls Tryz.prog 190 #[.agg (af c (.slice a c.cells.length p) (.slice b c.words.length q)),.agg (aa h)] w fun r w'=>bQ w w' (aP c h) r:=by
 obtain ⟨k1,k2,_,_⟩:=bu hk
 obtain ⟨n1,n2⟩:=dM k1
 have m1:c.cells.length≤1099511627776:=by omega
 have m2:c.words.length≤1099511627776:=by omega
 have H1:=Lib.hid h1
 have H2:=Lib.hid h2
 have Z1:=Lib.hid z1
 have Z2:=Lib.hid z2
 obtain ⟨c1,c2⟩:=fE k2
 obtain ⟨i,hci⟩:∃ i:Nat,h.cell=(i:Int):=⟨h.cell.toNat,by omega⟩
 have hi:i<c.cells.length:=by omega
 have e:aP c h=done (bH c i 7) (dI h 0):=by simp [aP,hk,hp0,hci]
 rw [e]
 have ST:=Lib.hid fun v1 v2 W=>iM c i 7 v1 v2 w.heap.size W
 have D:=fun v1 v2 W=>aW (bH c i 7) (dI h 0) v1 v2 w.heap.size W
 simp only [jh,iQ] at D
 generalize done (bH c i 7) (dI h 0)=x at *
 replace D:=Lib.hid D
 clear h1 h2 z1 z2 e k1 k2 n1 n2 c1 c2
 go_enter Tryz.func190,Tryz.ntmps190
 go_wp2_with fail;refine au w zB fun bb=>?_;refine (bZ c h 9 15 2 a b p q _ (aT H1 bb) (aT H2 bb)).mono ?_;rintro _ w1 ⟨rfl,ag⟩;obtain ⟨aV,ak,zz⟩:=dV bb ag (b:=w.heap.size);(try simp at ak);(try simp [go_sem] at zz);replace bX:=dx zz;clear zz ag bb
 rw [hk]
 go_wp2_with fail;refine au w zB fun bb=>?_;refine (cO c a b p q _ (aT H1 bb) Z1.out (aT H2 bb) Z2.out m1 m2).mono ?_;rintro _ w2 ⟨⟨v1,v2,rfl,o1,o2⟩,hbw2⟩;obtain ⟨dh,aR,zz⟩:=dV bb hbw2 (b:=w.heap.size);(try simp at aR);(first|simp [go_sem,bX] at zz|simp [go_sem] at zz|skip);replace bX:=dx zz;clear zz hbw2 bb
 have d1:=iH o1 (w.heap.size+1+1+1+1)
 have d2:=iH o2 (w.heap.size+1+1+1+1)
 have p1:=ay (lo':=w.heap.size) o1 tO
 have p2:=ay (lo':=w.heap.size) o2 tO
 obtain ⟨a1,q1,rfl,_⟩:=o1.seg
 obtain ⟨a2,q2,rfl,_⟩:=o2.seg
 have nw:∀ j,(j<w.heap.size+1+1+1+1∨w2.heap.size≤j)→some j≠(Value.slice a1 c.cells.length q1).ownBlock:=fun j hj e=>by have:=d1 _ e.symm;have:=(o1.lt _ e.symm).2;omega
 have LV:=nw (w.heap.size) tO
 have JU:=nw (w.heap.size+1) tO
 have JV:=nw (w.heap.size+1+1) tO
 have Lr:=nw (w.heap.size+1+1+1) tO
 have MN:=nw w2.heap.size tO
 obtain ⟨k0,k1,k2,k3⟩:=jW (a:=w.heap.size) (b:=w2.heap.size)
 go_wp2_with fail
 go_region_held3 (fun w'=>hp w' w2.heap.size=some (.cells (af c (.slice a1 c.cells.length q1) (.slice a2 c.words.length q2)) 31)∧hp w' (w.heap.size+1)=some (.cells (aa h) 49)∧w'.cell? ⟨w.heap.size+1,3,none⟩=some (.int .i64 i))
  (first|(simp [*,go_sem]))
  (first|(go_at_call 203;refine (ST.out _ _ _ (zO p1 o1) (zO p2 o2) hi).mono ?_;rintro _ w4 ⟨rfl,s1,s2,fw⟩;have gu:=fw.size;(try (simp at gu));have zz:=And.intro (dN fw (b:=w2.heap.size) tS (by assumption)) <| And.intro (dN fw (b:=w.heap.size+1+1+1) tS (by assumption)) <| And.intro (dN fw (b:=w.heap.size+1+1) tS (by assumption)) <| And.intro (dN fw (b:=w.heap.size+1) tS (by assumption)) <| dN fw (b:=w.heap.size) tS (by assumption);(first|simp [go_sem,bX,k0,k1,k2,k3] at zz|simp [go_sem] at zz|skip);replace bX:=jb zz;clear zz;have kI:Below w.heap.size w w4:=lI zB fw tS (fun k hk=>by have:=d1 k hk;omega);clear fw)|((go_at_call 206;refine au w zB fun bb=>?_;refine au w4 zB fun bk=>?_;refine (oo _ _ _).mono ?_;rintro _ w5 ⟨rfl,bU⟩;have mE:=bT bb bU;have gK:=bU.size;(try simp at gK);have zz:=And.intro (hQ bU (b:=w2.heap.size)) <| And.intro (hQ bU (b:=w.heap.size+1+1+1)) <| And.intro (hQ bU (b:=w.heap.size+1+1)) <| And.intro (hQ bU (b:=w.heap.size+1)) <| hQ bU (b:=w.heap.size);(first|simp [go_sem,bX,k0,k1,k2,k3] at zz|simp [go_sem] at zz|skip);replace bX:=jb zz;clear zz;have gZ:=bT bk bU;clear bU bb bk);have r1:=own_below s1 gZ;have r2:=own_below s2 gZ)|((go_at_call 198;refine au w zB fun bb=>?_;refine (D.out _ _ _ (zO r1 o1) (zO r2 o2)).mono ?_;rintro _ w3 ⟨⟨y1,y2,rfl,aO,aQ,dH,dF⟩,aC⟩;have iG:=bT bb aC;have bM:=aC.size;(try simp at bM);have zz:=And.intro (hQ aC (b:=w2.heap.size)) <| And.intro (hQ aC (b:=w.heap.size+1+1+1)) <| And.intro (hQ aC (b:=w.heap.size+1+1)) <| And.intro (hQ aC (b:=w.heap.size+1)) <| hQ aC (b:=w.heap.size);(first|simp [go_sem,bX,k0,k1,k2,k3] at zz|simp [go_sem] at zz|skip);replace bX:=jb zz;clear zz aC bb);obtain ⟨⟨aD,aF⟩,dQ,dR⟩:=kH (w:=w) (w.heap.size+1+1+1+1) dH dF d1 d2;obtain ⟨ya,yp,rfl,_⟩:=aO.seg;obtain ⟨yb,yq,rfl,_⟩:=aQ.seg))
 all_goals go_wp2
 all_goals (refine rE Tryz.results190 rfl (az x.1 (.slice ya x.1.cells.length yp) (.slice yb x.1.words.length yq) tY) rfl (aj x.2.1 tY) ⟨⟨_,_,rfl,?_,?_,dQ,dR⟩,by exact zB⟩)
 all_goals (first|exact zP aO aO aD|skip)
 all_goals (first|exact zP aQ aQ aF|skip)
theorem Ia (c:Ch) (h:Ha) (a b:Option Addr) (p q:Nat) (w:World) (h1:eY w w.heap.size a c.cells) (z1:a=none→p=0) (h2:eZ w w.heap.size b c.words) (z2:b=none→q=0) (hk:aX c h 9 15 2=true) (hp0:h.pos=15) :
  Calls Tryz.prog 190 #[.agg (af c (.slice a c.cells.length p) (.slice b c.words.length q)),.agg (aa h)] w fun r w'=>bQ w w' (aP c h) r:=by
 obtain ⟨k1,k2,_,_⟩:=bu hk
 obtain ⟨n1,n2⟩:=dM k1
 have m1:c.cells.length≤1099511627776:=by omega
 have m2:c.words.length≤1099511627776:=by omega
 have H1:=Lib.hid h1
 have H2:=Lib.hid h2
 have Z1:=Lib.hid z1
 have Z2:=Lib.hid z2
 obtain ⟨c1,c2⟩:=fE k2
 obtain ⟨i,hci⟩:∃ i:Nat,h.cell=(i:Int):=⟨h.cell.toNat,by omega⟩
 have hi:i<c.cells.length:=by omega
 have e:aP c h=done (bH c i 9) (begun h.code h.elem h.beg):=by simp [aP,hk,hp0,hci,anew]
 rw [e]
 have ST:=Lib.hid fun v1 v2 W=>iM c i 9 v1 v2 w.heap.size W
 have D:=fun v1 v2 W=>aW (bH c i 9) (begun h.code h.elem h.beg) v1 v2 w.heap.size W
 simp only [jh,iQ] at D
 generalize done (bH c i 9) (begun h.code h.elem h.beg)=x at *
 replace D:=Lib.hid D
 clear h1 h2 z1 z2 e k1 k2 n1 n2 c1 c2
 go_enter Tryz.func190,Tryz.ntmps190
 go_wp2_with fail;refine au w zB fun bb=>?_;refine (bZ c h 9 15 2 a b p q _ (aT H1 bb) (aT H2 bb)).mono ?_;rintro _ w1 ⟨rfl,ag⟩;obtain ⟨aV,ak,zz⟩:=dV bb ag (b:=w.heap.size);(try simp at ak);(try simp [go_sem] at zz);replace bX:=dx zz;clear zz ag bb
 rw [hk]
 go_wp2_with fail;refine au w zB fun bb=>?_;refine (cO c a b p q _ (aT H1 bb) Z1.out (aT H2 bb) Z2.out m1 m2).mono ?_;rintro _ w2 ⟨⟨v1,v2,rfl,o1,o2⟩,hbw2⟩;obtain ⟨dh,aR,zz⟩:=dV bb hbw2 (b:=w.heap.size);(try simp at aR);(first|simp [go_sem,bX] at zz|simp [go_sem] at zz|skip);replace bX:=dx zz;clear zz hbw2 bb
 have d1:=iH o1 (w.heap.size+1+1+1+1)
 have d2:=iH o2 (w.heap.size+1+1+1+1)
 have p1:=ay (lo':=w.heap.size) o1 tO
 have p2:=ay (lo':=w.heap.size) o2 tO
 obtain ⟨a1,q1,rfl,_⟩:=o1.seg
 obtain ⟨a2,q2,rfl,_⟩:=o2.seg
 have nw:∀ j,(j<w.heap.size+1+1+1+1∨w2.heap.size≤j)→some j≠(Value.slice a1 c.cells.length q1).ownBlock:=fun j hj e=>by have:=d1 _ e.symm;have:=(o1.lt _ e.symm).2;omega
 have LV:=nw (w.heap.size) tO
 have JU:=nw (w.heap.size+1) tO
 have JV:=nw (w.heap.size+1+1) tO
 have Lr:=nw (w.heap.size+1+1+1) tO
 have MN:=nw w2.heap.size tO
 obtain ⟨k0,k1,k2,k3⟩:=jW (a:=w.heap.size) (b:=w2.heap.size)
 go_wp2_with fail
 go_region_held3 (fun w'=>hp w' w2.heap.size=some (.cells (af c (.slice a1 c.cells.length q1) (.slice a2 c.words.length q2)) 31)∧hp w' (w.heap.size+1)=some (.cells (aa h) 49)∧w'.cell? ⟨w.heap.size+1,3,none⟩=some (.int .i64 i))
  (first|(simp [*,go_sem]))
  (first|(go_at_call 203;refine (ST.out _ _ _ (zO p1 o1) (zO p2 o2) hi).mono ?_;rintro _ w4 ⟨rfl,s1,s2,fw⟩;have gu:=fw.size;(try (simp at gu));have zz:=And.intro (dN fw (b:=w2.heap.size) tS (by assumption)) <| And.intro (dN fw (b:=w.heap.size+1+1+1) tS (by assumption)) <| And.intro (dN fw (b:=w.heap.size+1+1) tS (by assumption)) <| And.intro (dN fw (b:=w.heap.size+1) tS (by assumption)) <| dN fw (b:=w.heap.size) tS (by assumption);(first|simp [go_sem,bX,k0,k1,k2,k3] at zz|simp [go_sem] at zz|skip);replace bX:=jb zz;clear zz;have kI:Below w.heap.size w w4:=lI zB fw tS (fun k hk=>by have:=d1 k hk;omega);clear fw)|((go_at_call 207;refine au w zB fun bb=>?_;refine au w4 zB fun bk=>?_;refine (jf _ _).mono ?_;rintro _ w5 ⟨rfl,bU⟩;have mE:=bT bb bU;have gK:=bU.size;(try simp at gK);have zz:=And.intro (hQ bU (b:=w2.heap.size)) <| And.intro (hQ bU (b:=w.heap.size+1+1+1)) <| And.intro (hQ bU (b:=w.heap.size+1+1)) <| And.intro (hQ bU (b:=w.heap.size+1)) <| hQ bU (b:=w.heap.size);(first|simp [go_sem,bX,k0,k1,k2,k3] at zz|simp [go_sem] at zz|skip);replace bX:=jb zz;clear zz;have gZ:=bT bk bU;clear bU bb bk);have r1:=own_below s1 gZ;have r2:=own_below s2 gZ)|((go_at_call 198;refine au w zB fun bb=>?_;refine (D.out _ _ _ (zO r1 o1) (zO r2 o2)).mono ?_;rintro _ w3 ⟨⟨y1,y2,rfl,aO,aQ,dH,dF⟩,aC⟩;have iG:=bT bb aC;have bM:=aC.size;(try simp at bM);have zz:=And.intro (hQ aC (b:=w2.heap.size)) <| And.intro (hQ aC (b:=w.heap.size+1+1+1)) <| And.intro (hQ aC (b:=w.heap.size+1+1)) <| And.intro (hQ aC (b:=w.heap.size+1)) <| hQ aC (b:=w.heap.size);(first|simp [go_sem,bX,k0,k1,k2,k3] at zz|simp [go_sem] at zz|skip);replace bX:=jb zz;clear zz aC bb);obtain ⟨⟨aD,aF⟩,dQ,dR⟩:=kH (w:=w) (w.heap.size+1+1+1+1) dH dF d1 d2;obtain ⟨ya,yp,rfl,_⟩:=aO.seg;obtain ⟨yb,yq,rfl,_⟩:=aQ.seg))
 all_goals go_wp2
 all_goals (refine rE Tryz.results190 rfl (az x.1 (.slice ya x.1.cells.length yp) (.slice yb x.1.words.length yq) tY) rfl (aj x.2.1 tY) ⟨⟨_,_,rfl,?_,?_,dQ,dR⟩,by exact zB⟩)
 all_goals (first|exact zP aO aO aD|skip)
 all_goals (first|exact zP aQ aQ aF|skip)
theorem rR (c:Ch) (h:Ha) (a b:Option Addr) (p q:Nat) (w:World) (h1:eY w w.heap.size a c.cells) (z1:a=none→p=0) (h2:eZ w w.heap.size b c.words) (z2:b=none→q=0) (hk:aX c h 9 15 2=true) (hp0:h.pos=13) :
  (∀ (ht:eU c h.wait 1=true),Calls Tryz.prog 190 #[.agg (af c (.slice a c.cells.length p) (.slice b c.words.length q)),.agg (aa h)] w fun r w'=>bQ w w' (aP c h) r) ∧
  (∀ (ht:eU c h.wait 1=false),Calls Tryz.prog 190 #[.agg (af c (.slice a c.cells.length p) (.slice b c.words.length q)),.agg (aa h)] w fun r w'=>bQ w w' (aP c h) r):=by
 constructor
 case' left =>
  intro ht
  have mA:Hid (0=0):=rfl
 case' right =>
  intro ht
  have mB:Hid (0=0):=rfl
 all_goals
  obtain ⟨k1,k2,_,_⟩:=bu hk
  obtain ⟨n1,n2⟩:=dM k1
  have m1:c.cells.length≤1099511627776:=by omega
  have m2:c.words.length≤1099511627776:=by omega
  have H1:=Lib.hid h1
  have H2:=Lib.hid h2
  have Z1:=Lib.hid z1
  have Z2:=Lib.hid z2
  first
  | (replace mA:=mA;have e:aP c h=done (dD c h.wait 1) ({ h with pos:=14 }):=by simp [aP,hk,hp0,vE,ht])
  | (replace mB:=mB;have e:aP c h=done (dD c h.wait 1) ({ h with pos:=15 }):=by simp [aP,hk,hp0,vE,ht])
  rw [e]
  have K:=fun a b p q W x1 x2 x3 x4=>nC c h.wait 1 a b p q W x1 x2 x3 x4 m1 m2
  first
  | (replace mA:=mA;have D:=fun v1 v2 W=>aW (dD c h.wait 1) ({ h with pos:=14 }) v1 v2 w.heap.size W)
  | (replace mB:=mB;have D:=fun v1 v2 W=>aW (dD c h.wait 1) ({ h with pos:=15 }) v1 v2 w.heap.size W)
  simp only [pG,oq] at D
  rw [ht] at K
  first
  | (replace mA:=mA;generalize done (dD c h.wait 1) ({ h with pos:=14 })=x at *)
  | (replace mB:=mB;generalize done (dD c h.wait 1) ({ h with pos:=15 })=x at *)
  generalize (dD c h.wait 1).words=tw at *
  replace K:=Lib.hid K
  replace D:=Lib.hid D
  clear ht
  clear h1 h2 z1 z2 e k1 k2 n1 n2
  go_enter Tryz.func190,Tryz.ntmps190
  go_wp2_with fail;refine au w zB fun bb=>?_;refine (bZ c h 9 15 2 a b p q _ (aT H1 bb) (aT H2 bb)).mono ?_;rintro _ w1 ⟨rfl,ag⟩;obtain ⟨aV,ak,zz⟩:=dV bb ag (b:=w.heap.size);(try simp at ak);(try simp [go_sem] at zz);replace bX:=dx zz;clear zz ag bb
  rw [hk]
  go_wp2_with fail;refine au w zB fun bb=>?_;refine (cO c a b p q _ (aT H1 bb) Z1.out (aT H2 bb) Z2.out m1 m2).mono ?_;rintro _ w2 ⟨⟨v1,v2,rfl,o1,o2⟩,hbw2⟩;obtain ⟨dh,aR,zz⟩:=dV bb hbw2 (b:=w.heap.size);(try simp at aR);(first|simp [go_sem,bX] at zz|simp [go_sem] at zz|skip);replace bX:=dx zz;clear zz hbw2 bb
  have d1:=iH o1 (w.heap.size+1+1+1+1)
  have d2:=iH o2 (w.heap.size+1+1+1+1)
  have p1:=ay (lo':=w.heap.size) o1 tO
  have p2:=ay (lo':=w.heap.size) o2 tO
  obtain ⟨a1,q1,rfl,_⟩:=o1.seg
  obtain ⟨a2,q2,rfl,_⟩:=o2.seg
  obtain ⟨k0,k1,k2,k3⟩:=jW (a:=w.heap.size) (b:=w2.heap.size)
  go_wp2_with fail;refine au w zB fun bb=>?_;refine au w2 zB fun bk=>?_;refine (K.out _ _ _ _ _ (aT H1 bb) Z1.out (aT H2 bb) Z2.out).mono ?_;rintro _ w4 ⟨⟨u1,u2,rfl,u3,u4⟩,d9⟩;have kI:=bT bb d9;have gu:=d9.size;(try simp at gu);have zz:=And.intro (hQ d9 (b:=w2.heap.size)) <| And.intro (hQ d9 (b:=w.heap.size+1+1+1)) <| And.intro (hQ d9 (b:=w.heap.size+1+1)) <| And.intro (hQ d9 (b:=w.heap.size+1)) <| hQ d9 (b:=w.heap.size);(first|simp [go_sem,bX,k0,k1,k2,k3] at zz|simp [go_sem] at zz|skip);replace bX:=jb zz;clear zz;have mP:=bT bk d9;clear d9 bb bk
  try simp at u3 u4
  have d3:=iH u3 (w.heap.size+1+1+1+1)
  have d4:=iH u4 (w.heap.size+1+1+1+1)
  clear d1 d2
  have d1:=d3
  have d2:=d4
  clear d3 d4
  have s1:=ay (lo':=w.heap.size) u3 tO
  have s2:=ay (lo':=w.heap.size) u4 tO
  have b3:=fun j (hj:u1.ownBlock=some j)=>(u3.lt j hj).1
  have b4:=fun j (hj:u2.ownBlock=some j)=>(u4.lt j hj).1
  have g3:u1.ownBlock≠some w2.heap.size:=fun e=>by have:=b3 _ e;omega
  have g4:u2.ownBlock≠some w2.heap.size:=fun e=>by have:=b4 _ e;omega
  obtain ⟨ua,up,rfl,_⟩:=u3.seg
  obtain ⟨ub,uq,rfl,_⟩:=u4.seg
  go_wp2_with fail;refine au w zB fun bb=>?_;refine (D.out _ _ _ (by (repeat first|with_reducible exact s1|with_reducible refine xS ?_ _|with_reducible refine uZ ?_|((with_reducible first|refine bP ?_ ?_ _|refine fI ?_ ?_);rotate_left;focus first|(refine own_ne u3 ?_;(try dsimp only);omega)|(refine fU u3 ?_;(try dsimp only);omega)|exact g3))) (by (repeat first|with_reducible exact s2|with_reducible refine xS ?_ _|with_reducible refine uZ ?_|((with_reducible first|refine bP ?_ ?_ _|refine fI ?_ ?_);rotate_left;focus first|(refine own_ne u4 ?_;(try dsimp only);omega)|(refine fU u4 ?_;(try dsimp only);omega)|exact g4)))).mono ?_;rintro _ w3 ⟨⟨y1,y2,rfl,aO,aQ,dH,dF⟩,aC⟩;obtain ⟨iG,bM,zz⟩:=dV bb aC (b:=w.heap.size);(try simp at bM);(first|simp [go_sem,bX,k0,k1,k2,k3] at zz|simp [go_sem] at zz|skip);replace bX:=dx zz;clear zz aC bb
  obtain ⟨⟨aD,aF⟩,dQ,dR⟩:=kH (w:=w) (w.heap.size+1+1+1+1) dH dF d1 d2;obtain ⟨ya,yp,rfl,_⟩:=aO.seg;obtain ⟨yb,yq,rfl,_⟩:=aQ.seg
  go_wp2
  refine rE Tryz.results190 rfl (az x.1 (.slice ya x.1.cells.length yp) (.slice yb x.1.words.length yq) tY) rfl (aj x.2.1 tY) ⟨⟨_,_,rfl,?_,?_,dQ,dR⟩,by exact zB⟩
  ·exact zP aO aO aD
  ·exact zP aQ aQ aF
theorem ES (c:Ch) (h:Ha) (a b:Option Addr) (p q:Nat) (w:World) (h1:eY w w.heap.size a c.cells) (z1:a=none→p=0) (h2:eZ w w.heap.size b c.words) (z2:b=none→q=0) (hk:aX c h 9 15 2=true) (hp0:h.pos=13) (ht:eU c h.wait 1=true) :
  Calls Tryz.prog 190 #[.agg (af c (.slice a c.cells.length p) (.slice b c.words.length q)),.agg (aa h)] w fun r w'=>bQ w w' (aP c h) r:=(rR c h a b p q w h1 z1 h2 z2 hk hp0).1 ht
theorem ET (c:Ch) (h:Ha) (a b:Option Addr) (p q:Nat) (w:World) (h1:eY w w.heap.size a c.cells) (z1:a=none→p=0) (h2:eZ w w.heap.size b c.words) (z2:b=none→q=0) (hk:aX c h 9 15 2=true) (hp0:h.pos=13) (ht:eU c h.wait 1=false) :
  Calls Tryz.prog 190 #[.agg (af c (.slice a c.cells.length p) (.slice b c.words.length q)),.agg (aa h)] w fun r w'=>bQ w w' (aP c h) r:=(rR c h a b p q w h1 z1 h2 z2 hk hp0).2 ht
end
section
open Go.RowKit
attribute [local simp] aI
attribute [local go_sem ↓] aH aU aM bz aN bB aA aK ax aB
theorem EU (c:Ch) (h:Ha) (a b:Option Addr) (p q:Nat) (w:World) (h1:eY w w.heap.size a c.cells) (z1:a=none→p=0) (h2:eZ w w.heap.size b c.words) (z2:b=none→q=0) (hk:aX c h 9 15 2=true) (hp0:h.pos=10) (hs:(cellAt c h.cell).s=6) :
    Calls Tryz.prog 190 #[.agg (af c (.slice a c.cells.length p) (.slice b c.words.length q)),.agg (aa h)] w fun r w'=>bQ w w' (aP c h) r:=by
  obtain ⟨k1,k2,_,_⟩:=bu hk
  obtain ⟨n1,n2⟩:=dM k1
  have m1:c.cells.length≤1099511627776:=by omega
  have m2:c.words.length≤1099511627776:=by omega
  have H1:=Lib.hid h1
  have H2:=Lib.hid h2
  have Z1:=Lib.hid z1
  have Z2:=Lib.hid z2
  obtain ⟨c1,c2⟩:=fE k2
  obtain ⟨i,hci⟩:∃ i:Nat,h.cell=(i:Int):=⟨h.cell.toNat,by omega⟩
  have hi:i<c.cells.length:=by omega
  have e:aP c h=(c,h,false):=by simp [aP,hk,hp0,vD,hs]
  rw [e]
  obtain ⟨bb,bo,rfl,hb,hcell⟩:∃ b' o,a=some ⟨b',o,none⟩∧b'<w.heap.size∧w.cell? ⟨b',o+i*3,none⟩=some (.int .i64 (cellAt c h.cell).s):=by
    rcases H1.out with h0|⟨b',o',e,h1,h2⟩
    · omega
    · exact ⟨b',o',e,h1,by simpa [eT,cellAt,hci,C3.val] using h2 i 0 hi tO⟩
  generalize (cellAt c h.cell).s=s at *
  subst hs
  clear h1 h2 z1 z2 e k1 k2 n1 n2 c1 c2
  go_enter Tryz.func190,Tryz.ntmps190
  go_wp2_with fail;refine au w zB fun bb=>?_;refine (bZ c h 9 15 2 _ b p q _ (aT H1 bb) (aT H2 bb)).mono ?_;rintro _ w1 ⟨rfl,ag⟩;obtain ⟨aV,ak,zz⟩:=dV bb ag (b:=w.heap.size);(try simp at ak);(try simp [go_sem] at zz);replace bX:=dx zz;clear zz ag bb
  rw [hk]
  go_wp2_with fail;refine au w zB fun bb=>?_;refine (cO c _ b p q _ (aT H1 bb) Z1.out (aT H2 bb) Z2.out m1 m2).mono ?_;rintro _ w2 ⟨⟨v1,v2,rfl,o1,o2⟩,hbw2⟩;obtain ⟨dh,aR,zz⟩:=dV bb hbw2 (b:=w.heap.size);(try simp at aR);(first|simp [go_sem,bX] at zz|simp [go_sem] at zz|skip);replace bX:=dx zz;clear zz hbw2 bb
  have d1:=iH o1 (w.heap.size+1+1+1+1)
  have d2:=iH o2 (w.heap.size+1+1+1+1)
  have p1:=ay (lo':=w.heap.size) o1 tO
  have p2:=ay (lo':=w.heap.size) o2 tO
  obtain ⟨a1,q1,rfl,_⟩:=o1.seg
  obtain ⟨a2,q2,rfl,_⟩:=o2.seg
  obtain ⟨k0,k1,k2,k3⟩:=jW (a:=w.heap.size) (b:=w2.heap.size)
  have hcell2:=(dh.cell (p:=⟨bb,bo+i*3,none⟩) hb).trans hcell
  have hi0:(0:Int)≤(i:Int):=by omega
  have hi1:(i:Int)<(c.cells.length:Int):=by omega
  have hbb:bb<w2.heap.size:=by omega
  have hbn:bb≠w2.heap.size:=by omega
  go_wp2_with fail
  go_region
  all_goals go_wp2
  all_goals (refine rE Tryz.results190 rfl (az c (.slice a1 c.cells.length q1) (.slice a2 c.words.length q2) tY) rfl (aj h tY) ⟨⟨_,_,rfl,?_,?_,fun j hj=>.inr (by have:=d1 j hj;omega),fun j hj=>.inr (by have:=d2 j hj;omega)⟩,by exact zB⟩)
  all_goals first|(show ah _ _ _ c.cells;exact zO p1 o1)|skip
  all_goals first|(show ai _ _ _ c.words;exact zO p2 o2)|skip
theorem rT (c:Ch) (h:Ha) (a b:Option Addr) (p q:Nat) (w:World) (h1:eY w w.heap.size a c.cells) (z1:a=none→p=0) (h2:eZ w w.heap.size b c.words) (z2:b=none→q=0) (hk:aX c h 9 15 2=true) (hp0:h.pos=10) (hs:((cellAt c h.cell).s == 6)=false) :
    (∀ (ht:(gz c h).2=true),Calls Tryz.prog 190 #[.agg (af c (.slice a c.cells.length p) (.slice b c.words.length q)),.agg (aa h)] w fun r w'=>bQ w w' (aP c h) r) ∧
    (∀ (ht:(gz c h).2=false),Calls Tryz.prog 190 #[.agg (af c (.slice a c.cells.length p) (.slice b c.words.length q)),.agg (aa h)] w fun r w'=>bQ w w' (aP c h) r):=by
  constructor
  case' left =>
    intro ht
    have mA:Hid (0=0):=rfl
  case' right =>
    intro ht
    have mB:Hid (0=0):=rfl
  all_goals
    obtain ⟨k1,k2,_,_⟩:=bu hk
    obtain ⟨n1,n2⟩:=dM k1
    have m1:c.cells.length≤1099511627776:=by omega
    have m2:c.words.length≤1099511627776:=by omega
    have H1:=Lib.hid h1
    have H2:=Lib.hid h2
    have Z1:=Lib.hid z1
    have Z2:=Lib.hid z2
    obtain ⟨c1,c2⟩:=fE k2
    obtain ⟨i,hci⟩:∃ i:Nat,h.cell=(i:Int):=⟨h.cell.toNat,by omega⟩
    have hi:i<c.cells.length:=by omega
    first
    | (replace mA:=mA;have e:aP c h=done c ((gz c h).1):=by simp at hs;simp [aP,hk,hp0,vD,hs,ht])
    | (replace mB:=mB;have e:aP c h=nothing:=by simp at hs;simp [aP,hk,hp0,vD,hs,ht])
    rw [e]
    obtain ⟨bb,bo,rfl,hb,hcell⟩:∃ b' o,a=some ⟨b',o,none⟩∧b'<w.heap.size∧w.cell? ⟨b',o+i*3,none⟩=some (.int .i64 (cellAt c h.cell).s):=by
      rcases H1.out with h0|⟨b',o',e,h1,h2⟩
      · omega
      · exact ⟨b',o',e,h1,by simpa [eT,cellAt,hci,C3.val] using h2 i 0 hi tO⟩
    generalize (cellAt c h.cell).s=s at *
    have K:=fun W x1=>Cj c h (some ⟨bb,bo,none⟩) b p q W x1 c1 tO
    rw [ht] at K
    first
    | (replace mA:=mA
       have D:=Lib.hid fun v1 v2 W=>aW (c) ((gz c h).1) v1 v2 w.heap.size W
       generalize done c ((gz c h).1)=x at *)
    | (replace mB:=mB
       have D:=Lib.hid fun W=>fQ W w.heap.size (.slice none 0 0) (.slice none 0 0)
       generalize nothing=x at *)
    generalize (gz c h).1=y at *
    replace K:=Lib.hid K
    clear h1 h2 z1 z2 e k1 k2 n1 n2 c1 c2
    go_enter Tryz.func190,Tryz.ntmps190
    go_wp2_with fail;refine au w zB fun bb=>?_;refine (bZ c h 9 15 2 _ b p q _ (aT H1 bb) (aT H2 bb)).mono ?_;rintro _ w1 ⟨rfl,ag⟩;obtain ⟨aV,ak,zz⟩:=dV bb ag (b:=w.heap.size);(try simp at ak);(try simp [go_sem] at zz);replace bX:=dx zz;clear zz ag bb
    rw [hk]
    go_wp2_with fail;refine au w zB fun bb=>?_;refine (cO c _ b p q _ (aT H1 bb) Z1.out (aT H2 bb) Z2.out m1 m2).mono ?_;rintro _ w2 ⟨⟨v1,v2,rfl,o1,o2⟩,hbw2⟩;obtain ⟨dh,aR,zz⟩:=dV bb hbw2 (b:=w.heap.size);(try simp at aR);(first|simp [go_sem,bX] at zz|simp [go_sem] at zz|skip);replace bX:=dx zz;clear zz hbw2 bb
    have d1:=iH o1 (w.heap.size+1+1+1+1)
    have d2:=iH o2 (w.heap.size+1+1+1+1)
    have p1:=ay (lo':=w.heap.size) o1 tO
    have p2:=ay (lo':=w.heap.size) o2 tO
    obtain ⟨a1,q1,rfl,_⟩:=o1.seg
    obtain ⟨a2,q2,rfl,_⟩:=o2.seg
    obtain ⟨k0,k1,k2,k3⟩:=jW (a:=w.heap.size) (b:=w2.heap.size)
    have hcell2:=(dh.cell (p:=⟨bb,bo+i*3,none⟩) hb).trans hcell
    have hi0:(0:Int)≤(i:Int):=by omega
    have hi1:(i:Int)<(c.cells.length:Int):=by omega
    have hbb:bb<w2.heap.size:=by omega
    have hbn:bb≠w2.heap.size:=by omega
    go_wp2_with fail;refine au w zB fun bb=>?_;refine au w2 zB fun bk=>?_;refine (K.out _ (aT H1 bb)).mono ?_;rintro _ w4 ⟨rfl,d9⟩;have kI:=bT bb d9;have gu:=d9.size;(try simp at gu);have zz:=And.intro (hQ d9 (b:=w2.heap.size)) <| And.intro (hQ d9 (b:=w.heap.size+1+1+1)) <| And.intro (hQ d9 (b:=w.heap.size+1+1)) <| And.intro (hQ d9 (b:=w.heap.size+1)) <| hQ d9 (b:=w.heap.size);(first|simp [go_sem,bX,k0,k1,k2,k3] at zz|simp [go_sem] at zz|skip);replace bX:=jb zz;clear zz;have mP:=bT bk d9;clear d9 bb bk
    have s1:=own_below p1 mP
    have s2:=own_below p2 mP
    first
    | (replace mA:=mA;go_wp2_with fail;refine au w zB fun bb=>?_;refine (D.out _ _ _ (zO s1 o1) (zO s2 o2)).mono ?_;rintro _ w3 ⟨⟨y1,y2,rfl,aO,aQ,dH,dF⟩,aC⟩;obtain ⟨iG,bM,zz⟩:=dV bb aC (b:=w.heap.size);(try simp at bM);(first|simp [go_sem,bX,k0,k1,k2,k3] at zz|simp [go_sem] at zz|skip);replace bX:=dx zz;clear zz aC bb)
    | (replace mB:=mB
       go_wp2_with fail;refine au w zB fun bb=>?_;refine (D.out _).mono ?_;rintro _ w3 ⟨⟨y1,y2,rfl,aO,aQ,dH,dF⟩,aC⟩;obtain ⟨iG,bM,zz⟩:=dV bb aC (b:=w.heap.size);(try simp at bM);(first|simp [go_sem,bX,k0,k1,k2,k3] at zz|simp [go_sem] at zz|skip);replace bX:=dx zz;clear zz aC bb
       have d3:∀ j,(Value.slice none 0 0).ownBlock=some j→w.heap.size+1+1+1+1≤j:=fun j hj=>by cases hj
       clear d1 d2
       have d1:=d3
       have d2:=d3)
    obtain ⟨⟨aD,aF⟩,dQ,dR⟩:=kH (w:=w) (w.heap.size+1+1+1+1) dH dF d1 d2;obtain ⟨ya,yp,rfl,_⟩:=aO.seg;obtain ⟨yb,yq,rfl,_⟩:=aQ.seg
    go_wp2
    refine rE Tryz.results190 rfl (az x.1 (.slice ya x.1.cells.length yp) (.slice yb x.1.words.length yq) tY) rfl (aj x.2.1 tY) ⟨⟨_,_,rfl,?_,?_,dQ,dR⟩,by exact zB⟩
    · exact zP aO aO aD
    · exact zP aQ aQ aF
theorem EW (c:Ch) (h:Ha) (a b:Option Addr) (p q:Nat) (w:World) (h1:eY w w.heap.size a c.cells) (z1:a=none→p=0) (h2:eZ w w.heap.size b c.words) (z2:b=none→q=0) (hk:aX c h 9 15 2=true) (hp0:h.pos=10) (hs:((cellAt c h.cell).s == 6)=false) (ht:(gz c h).2=true) :
    Calls Tryz.prog 190 #[.agg (af c (.slice a c.cells.length p) (.slice b c.words.length q)),.agg (aa h)] w fun r w'=>bQ w w' (aP c h) r:=(rT c h a b p q w h1 z1 h2 z2 hk hp0 hs).1 ht
theorem EX (c:Ch) (h:Ha) (a b:Option Addr) (p q:Nat) (w:World) (h1:eY w w.heap.size a c.cells) (z1:a=none→p=0) (h2:eZ w w.heap.size b c.words) (z2:b=none→q=0) (hk:aX c h 9 15 2=true) (hp0:h.pos=10) (hs:((cellAt c h.cell).s == 6)=false) (ht:(gz c h).2=false) :
    Calls Tryz.prog 190 #[.agg (af c (.slice a c.cells.length p) (.slice b c.words.length q)),.agg (aa h)] w fun r w'=>bQ w w' (aP c h) r:=(rT c h a b p q w h1 z1 h2 z2 hk hp0 hs).2 ht
end
section
open Go.RowKit
attribute [local simp] aI
attribute [local go_sem ↓] aH aU aM bz aN bB aA aK ax aB
theorem vK (c:Ch) (h:Ha) (tq wt:Int) (thn:Ha) (v1 v2:Value) (lo:Nat) (w:World) (h1:ah w lo v1 c.cells) (h2:ai w lo v2 c.words) (hc0:0≤h.cell) (hc1:h.cell<c.cells.length) :
    (∀ (ht:bn c h.cell h.seen tq wt=true),Calls Tryz.prog 215 #[.agg (af c v1 v2),.agg (aa h),.int .i64 tq,.int .i64 wt,.agg (aa thn)] w fun r w'=>cK w w' lo v1 v2 (gL c h tq wt thn) r) ∧
    (∀ (ht:bn c h.cell h.seen tq wt=false),Calls Tryz.prog 215 #[.agg (af c v1 v2),.agg (aa h),.int .i64 tq,.int .i64 wt,.agg (aa thn)] w fun r w'=>cK w w' lo v1 v2 (gL c h tq wt thn) r):=by
  constructor
  case' left =>
    intro ht
    have mA:Hid (0=0):=rfl
  case' right =>
    intro ht
    have mB:Hid (0=0):=rfl
  all_goals
    obtain ⟨i,hci⟩:∃ i:Nat,h.cell=(i:Int):=⟨h.cell.toNat,by omega⟩
    have hi:i<c.cells.length:=by omega
    first
    | (replace mA:=mA
       have ht2:bn c i h.seen tq wt=true:=by rw [← ht];simp [*]
       have e:gL c h tq wt thn=done (bf c i h.seen tq wt) (thn):=by simp [gL,hci,ht2])
    | (replace mB:=mB
       have ht2:bn c i h.seen tq wt=false:=by rw [← ht];simp [*]
       have e:gL c h tq wt thn=done (bf c i h.seen tq wt) ({ h with pos:=10,cell:=(i:Int) }):=by simp [gL,hci,ht2])
    rw [e]
    have T:=Lib.hid fun W a b=>iw c i h.seen tq wt v1 v2 lo W a b hi
    first
    | (replace mA:=mA
       have D:=Lib.hid fun W=>aW (bf c i h.seen tq wt) (thn) v1 v2 lo W
       generalize done (bf c i h.seen tq wt) (thn)=x at *)
    | (replace mB:=mB
       have D:=Lib.hid fun W=>aW (bf c i h.seen tq wt) ({ h with pos:=10,cell:=(i:Int) }) v1 v2 lo W
       generalize done (bf c i h.seen tq wt) ({ h with pos:=10,cell:=(i:Int) })=x at *)
    rw [ht2] at T
    have b1:=jc h1
    have b2:=jc h2
    have m1:=lD b1
    have m2:=lD b2
    have m10:=m1 (w.heap.size) tO
    have m20:=m2 (w.heap.size) tO
    have m11:=m1 (w.heap.size+1) tO
    have m21:=m2 (w.heap.size+1) tO
    have m12:=m1 (w.heap.size+1+1) tO
    have m22:=m2 (w.heap.size+1+1) tO
    have m13:=m1 (w.heap.size+1+1+1) tO
    have m23:=m2 (w.heap.size+1+1+1) tO
    have m14:=m1 (w.heap.size+1+1+1+1) tO
    have m24:=m2 (w.heap.size+1+1+1+1) tO
    have o1:=h1
    have o2:=h2
    obtain ⟨a1,q1,e1,_⟩:=h1.seg
    obtain ⟨a2,q2,e2,_⟩:=h2.seg
    subst e1 e2
    clear h1 h2 e ht
    go_enter Tryz.func215,Tryz.ntmps215
    go_wp2_with fail;refine (T.out _ (zO o1 o1) (zO o2 o2)).mono ?_;rintro _ w1 ⟨rfl,p1,p2,hgw1⟩;have ak:=hgw1.size;(try (simp at ak));have zz:=Px hgw1 (b:=w.heap.size);(try simp [go_sem] at zz);replace bX:=jb zz;clear zz;have jJ:=Gg (w:=w) zB hgw1;clear hgw1
    have tL:gV (Value.slice a1 c.cells.length q1).ownBlock (Value.slice a2 c.words.length q2).ownBlock w w1:=kS jJ
    obtain ⟨k0,k1,k2,k3⟩:=jW (a:=w.heap.size) (b:=w1.heap.size)
    have k4:w.heap.size+1+1+1+1<w1.heap.size:=by omega
    have r1:ah w1 lo (.slice a1 c.cells.length q1) (bf c i h.seen tq wt).cells:=p1
    have r2:ai w1 lo (.slice a2 c.words.length q2) (bf c i h.seen tq wt).words:=p2
    go_wp2_with fail
    refine (D.out _ (zO r1 o1) (zO r2 o2)).mono ?_
    rintro _ w3 ⟨⟨y1,y2,rfl,aO,aQ,dH,dF⟩,aC⟩
    have hO3:gV (Value.slice a1 c.cells.length q1).ownBlock (Value.slice a2 c.words.length q2).ownBlock w w3:=fA zN (dA aC)
    have bM:=aC.size;(try simp at bM);have zz:=PO aC (b:=w.heap.size);(first|simp [go_sem,bX,k0,k1,k2,k3,k4] at zz|simp [go_sem] at zz|skip);replace bX:=jb zz;clear zz aC
    obtain ⟨⟨aD,aF⟩,dQ,dR⟩:=sO (w:=w) (w.heap.size+1+1+1+1+1) dH dF b1 b2;obtain ⟨ya,yp,rfl,_⟩:=aO.seg;obtain ⟨yb,yq,rfl,_⟩:=aQ.seg
    go_wp2
    refine rE Tryz.results215 rfl (az x.1 (.slice ya x.1.cells.length yp) (.slice yb x.1.words.length yq) tY) rfl (aj x.2.1 tY) ⟨⟨_,_,rfl,?_,?_,dQ,dR⟩,by exact zN⟩
    · exact zP aO aO aD
    · exact zP aQ aQ aF
theorem Ib (c:Ch) (h:Ha) (tq wt:Int) (thn:Ha) (v1 v2:Value) (lo:Nat) (w:World) (h1:ah w lo v1 c.cells) (h2:ai w lo v2 c.words) (hc0:0≤h.cell) (hc1:h.cell<c.cells.length) (ht:bn c h.cell h.seen tq wt=true) :
    Calls Tryz.prog 215 #[.agg (af c v1 v2),.agg (aa h),.int .i64 tq,.int .i64 wt,.agg (aa thn)] w fun r w'=>cK w w' lo v1 v2 (gL c h tq wt thn) r:=(vK c h tq wt thn v1 v2 lo w h1 h2 hc0 hc1).1 ht
theorem Ic (c:Ch) (h:Ha) (tq wt:Int) (thn:Ha) (v1 v2:Value) (lo:Nat) (w:World) (h1:ah w lo v1 c.cells) (h2:ai w lo v2 c.words) (hc0:0≤h.cell) (hc1:h.cell<c.cells.length) (ht:bn c h.cell h.seen tq wt=false) :
    Calls Tryz.prog 215 #[.agg (af c v1 v2),.agg (aa h),.int .i64 tq,.int .i64 wt,.agg (aa thn)] w fun r w'=>cK w w' lo v1 v2 (gL c h tq wt thn) r:=(vK c h tq wt thn v1 v2 lo w h1 h2 hc0 hc1).2 ht
theorem ou (c:Ch) (h:Ha) (tq wt:Int) (thn:Ha) (v1 v2:Value) (lo:Nat) (w:World) (h1:ah w lo v1 c.cells) (h2:ai w lo v2 c.words) (hc0:0≤h.cell) (hc1:h.cell<c.cells.length) :
    Calls Tryz.prog 215 #[.agg (af c v1 v2),.agg (aa h),.int .i64 tq,.int .i64 wt,.agg (aa thn)] w fun r w'=>cK w w' lo v1 v2 (gL c h tq wt thn) r:=by
  cases ht:bn c h.cell h.seen tq wt with
  | true=>exact Ib c h tq wt thn v1 v2 lo w h1 h2 hc0 hc1 ht
  | false=>exact Ic c h tq wt thn v1 v2 lo w h1 h2 hc0 hc1 ht
end
section
open Go.RowKit
attribute [local simp] aI
attribute [local go_sem ↓] aH aU aM bz aN bB aA aK ax aB
theorem Ie (c:Ch) (h:Ha) (v1 v2:Value) (lo:Nat) (w:World) (h1:ah w lo v1 c.cells) (h2:ai w lo v2 c.words) (hc0:0≤h.cell) (hc1:h.cell<c.cells.length) (hs:h.seen=2) :
  bY 205 c h v1 v2 lo w (fu c h):=by
 have e:fu c h=gL c h 7 0 (dI h 0):=by simp [fu,hs]
 rw [e]
 have K:=Lib.hid fun W a b=>ou c h 7 0 (dI h 0) v1 v2 lo W a b hc0 hc1
 generalize gL c h 7 0 (dI h 0)=x at *
 have b1:=jc h1
 have b2:=jc h2
 have m1:=lD b1
 have m2:=lD b2
 have m10:=m1 (w.heap.size) tO
 have m20:=m2 (w.heap.size) tO
 have m11:=m1 (w.heap.size+1) tO
 have m21:=m2 (w.heap.size+1) tO
 have m12:=m1 (w.heap.size+1+1) tO
 have m22:=m2 (w.heap.size+1+1) tO
 have m13:=m1 (w.heap.size+1+1+1) tO
 have m23:=m2 (w.heap.size+1+1+1) tO
 have o1:=h1
 have o2:=h2
 obtain ⟨a1,q1,e1,_⟩:=h1.seg
 obtain ⟨a2,q2,e2,_⟩:=h2.seg
 subst e1 e2
 clear h1 h2 e
 go_enter Tryz.func205,Tryz.ntmps205
 go_wp2_with fail
 go_region_held3 (fun w'=>hp w' w.heap.size=some (.cells (af c (.slice a1 c.cells.length q1) (.slice a2 c.words.length q2)) 31)∧hp w' (w.heap.size+1)=some (.cells (aa h) 49))
  (first|(simp [*,go_sem]))
  (first|((go_at_call 206;refine au w zB fun bb=>?_;refine (oo _ _ _).mono ?_;rintro _ w1 ⟨rfl,ag⟩;obtain ⟨aV,ak,zz⟩:=dV bb ag (b:=w.heap.size);(try simp at ak);(try simp [go_sem] at zz);replace bX:=dx zz;clear zz;have eD:=aV;clear ag bb);have p1:=own_below o1 aV;have p2:=own_below o2 aV;have tL:gV (Value.slice a1 c.cells.length q1).ownBlock (Value.slice a2 c.words.length q2).ownBlock w w1:=dA aV)|(go_at_call 215;refine (K.out _ (zO p1 p1) (zO p2 p2)).mono ?_;rintro _ w3 ⟨⟨y1,y2,rfl,aO,aQ,dH,dF⟩,hO⟩;have bM:=hO.2.2.2.1;(try (simp at bM));have zz:=Bl hO (b:=w.heap.size);(first|simp [go_sem,bX] at zz|simp [go_sem] at zz|skip);replace bX:=dx zz;clear zz;have hO3:gV (Value.slice a1 c.cells.length q1).ownBlock (Value.slice a2 c.words.length q2).ownBlock w w3:=fA zN hO;clear hO;obtain ⟨⟨aD,aF⟩,dQ,dR⟩:=sO (w:=w) (w.heap.size+1+1+1+1) dH dF b1 b2;obtain ⟨ya,yp,rfl,_⟩:=aO.seg;obtain ⟨yb,yq,rfl,_⟩:=aQ.seg))
 all_goals go_wp2
 all_goals (refine rE Tryz.results205 rfl (az x.1 (.slice ya x.1.cells.length yp) (.slice yb x.1.words.length yq) tY) rfl (aj x.2.1 tY) ⟨⟨_,_,rfl,?_,?_,dQ,dR⟩,by exact zN⟩)
 all_goals (first|exact zP aO aO aD|skip)
 all_goals (first|exact zP aQ aQ aF|skip)
theorem rU (c:Ch) (h:Ha) (v1 v2:Value) (lo:Nat) (w:World) (h1:ah w lo v1 c.cells) (h2:ai w lo v2 c.words) (hc0:0≤h.cell) (hc1:h.cell<c.cells.length) (hx:h.cell<h.come) (Nn:h.seen=0∨h.seen=1) :
  bY 205 c h v1 v2 lo w (fu c h):=by
 rcases Nn with hs|hs
 all_goals
  have e:fu c h=gL c h 8 0 (dI h 2):=by simp [fu,hs,hx]
  rw [e]
  have K:=Lib.hid fun W a b=>ou c h 8 0 (dI h 2) v1 v2 lo W a b hc0 hc1
  generalize gL c h 8 0 (dI h 2)=x at *
  have b1:=jc h1
  have b2:=jc h2
  have m1:=lD b1
  have m2:=lD b2
  have m10:=m1 (w.heap.size) tO
  have m20:=m2 (w.heap.size) tO
  have m11:=m1 (w.heap.size+1) tO
  have m21:=m2 (w.heap.size+1) tO
  have m12:=m1 (w.heap.size+1+1) tO
  have m22:=m2 (w.heap.size+1+1) tO
  have m13:=m1 (w.heap.size+1+1+1) tO
  have m23:=m2 (w.heap.size+1+1+1) tO
  have o1:=h1
  have o2:=h2
  obtain ⟨a1,q1,e1,_⟩:=h1.seg
  obtain ⟨a2,q2,e2,_⟩:=h2.seg
  subst e1 e2
  clear h1 h2 e
  go_enter Tryz.func205,Tryz.ntmps205
  go_wp2_with fail
  go_region_held3 (fun w'=>hp w' w.heap.size=some (.cells (af c (.slice a1 c.cells.length q1) (.slice a2 c.words.length q2)) 31)∧hp w' (w.heap.size+1)=some (.cells (aa h) 49))
   (first|(simp [*,go_sem]))
   (first|((go_at_call 206;refine au w zB fun bb=>?_;refine (oo _ _ _).mono ?_;rintro _ w1 ⟨rfl,ag⟩;obtain ⟨aV,ak,zz⟩:=dV bb ag (b:=w.heap.size);(try simp at ak);(try simp [go_sem] at zz);replace bX:=dx zz;clear zz;have eD:=aV;clear ag bb);have p1:=own_below o1 aV;have p2:=own_below o2 aV;have tL:gV (Value.slice a1 c.cells.length q1).ownBlock (Value.slice a2 c.words.length q2).ownBlock w w1:=dA aV)|(go_at_call 215;refine (K.out _ (zO p1 p1) (zO p2 p2)).mono ?_;rintro _ w3 ⟨⟨y1,y2,rfl,aO,aQ,dH,dF⟩,hO⟩;have bM:=hO.2.2.2.1;(try (simp at bM));have zz:=Bl hO (b:=w.heap.size);(first|simp [go_sem,bX] at zz|simp [go_sem] at zz|skip);replace bX:=dx zz;clear zz;have hO3:gV (Value.slice a1 c.cells.length q1).ownBlock (Value.slice a2 c.words.length q2).ownBlock w w3:=fA zN hO;clear hO;obtain ⟨⟨aD,aF⟩,dQ,dR⟩:=sO (w:=w) (w.heap.size+1+1+1+1) dH dF b1 b2;obtain ⟨ya,yp,rfl,_⟩:=aO.seg;obtain ⟨yb,yq,rfl,_⟩:=aQ.seg))
  all_goals go_wp2
  all_goals (refine rE Tryz.results205 rfl (az x.1 (.slice ya x.1.cells.length yp) (.slice yb x.1.words.length yq) tY) rfl (aj x.2.1 tY) ⟨⟨_,_,rfl,?_,?_,dQ,dR⟩,by exact zN⟩)
  all_goals (first|exact zP aO aO aD|skip)
  all_goals (first|exact zP aQ aQ aF|skip)
theorem EY (c:Ch) (h:Ha) (v1 v2:Value) (lo:Nat) (w:World) (h1:ah w lo v1 c.cells) (h2:ai w lo v2 c.words) (hc0:0≤h.cell) (hc1:h.cell<c.cells.length) (hs:h.seen=0) (hx:h.cell<h.come) :
  Calls Tryz.prog 205 #[.agg (af c v1 v2),.agg (aa h)] w fun r w'=>cK w w' lo v1 v2 (fu c h) r:=rU c h v1 v2 lo w h1 h2 hc0 hc1 hx (.inl hs)
theorem EZ (c:Ch) (h:Ha) (v1 v2:Value) (lo:Nat) (w:World) (h1:ah w lo v1 c.cells) (h2:ai w lo v2 c.words) (hc0:0≤h.cell) (hc1:h.cell<c.cells.length) (hs:h.seen=1) (hx:h.cell<h.come) :
  Calls Tryz.prog 205 #[.agg (af c v1 v2),.agg (aa h)] w fun r w'=>cK w w' lo v1 v2 (fu c h) r:=rU c h v1 v2 lo w h1 h2 hc0 hc1 hx (.inr hs)
theorem Ig (c:Ch) (h:Ha) (v1 v2:Value) (lo:Nat) (w:World) (h1:ah w lo v1 c.cells) (h2:ai w lo v2 c.words) (hc0:0≤h.cell) (hc1:h.cell<c.cells.length) (hs:(h.seen == 3)=true) (hs2:(h.seen == 2)=false) :
  bY 205 c h v1 v2 lo w (fu c h):=by
 have e:fu c h=gL c h 5 h.wait ({ h with pos:=13 }):=by simp at hs hs2;simp [fu,hs]
 rw [e]
 have K:=Lib.hid fun W a b=>ou c h 5 h.wait ({ h with pos:=13 }) v1 v2 lo W a b hc0 hc1
 generalize gL c h 5 h.wait ({ h with pos:=13 })=x at *
 have b1:=jc h1
 have b2:=jc h2
 have m1:=lD b1
 have m2:=lD b2
 have m10:=m1 (w.heap.size) tO
 have m20:=m2 (w.heap.size) tO
 have m11:=m1 (w.heap.size+1) tO
 have m21:=m2 (w.heap.size+1) tO
 have m12:=m1 (w.heap.size+1+1) tO
 have m22:=m2 (w.heap.size+1+1) tO
 have m13:=m1 (w.heap.size+1+1+1) tO
 have m23:=m2 (w.heap.size+1+1+1) tO
 have o1:=h1
 have o2:=h2
 obtain ⟨a1,q1,e1,_⟩:=h1.seg
 obtain ⟨a2,q2,e2,_⟩:=h2.seg
 subst e1 e2
 clear h1 h2 e
 go_enter Tryz.func205,Tryz.ntmps205
 go_wp2_with fail
 refine (K.out _ (zO o1 o1) (zO o2 o2)).mono ?_
 rintro _ w3 ⟨⟨y1,y2,rfl,aO,aQ,dH,dF⟩,hO⟩
 have bM:=hO.2.2.2.1;(try (simp at bM));have zz:=Bl hO (b:=w.heap.size);(try simp [go_sem] at zz);replace bX:=dx zz;clear zz
 have hO3:gV (Value.slice a1 c.cells.length q1).ownBlock (Value.slice a2 c.words.length q2).ownBlock w w3:=fA (dA zB) hO
 clear hO
 obtain ⟨⟨aD,aF⟩,dQ,dR⟩:=sO (w:=w) (w.heap.size+1+1+1+1) dH dF b1 b2;obtain ⟨ya,yp,rfl,_⟩:=aO.seg;obtain ⟨yb,yq,rfl,_⟩:=aQ.seg
 go_wp2
 refine rE Tryz.results205 rfl (az x.1 (.slice ya x.1.cells.length yp) (.slice yb x.1.words.length yq) tY) rfl (aj x.2.1 tY) ⟨⟨_,_,rfl,?_,?_,dQ,dR⟩,by exact zN⟩
 ·exact zP aO aO aD
 ·exact zP aQ aQ aF
theorem Fa (c:Ch) (h:Ha) (v1 v2:Value) (lo:Nat) (w:World) (h1:ah w lo v1 c.cells) (h2:ai w lo v2 c.words) (hs:(h.seen == 2)=false) (hs2:(h.seen == 3)=false) (hs3:(h.seen != 0)=true) (hs4:(h.seen != 1)=true) :
  bY 205 c h v1 v2 lo w (fu c h):=by
 have e:fu c h=nothing:=by simp at hs hs2 hs3 hs4;simp [fu,hs,hs2,hs3,hs4]
 rw [e]
 have T:=Lib.hid (fQ · lo v1 v2)
 generalize nothing=x at *
 have b1:=jc h1
 have b2:=jc h2
 have m1:=lD b1
 have m2:=lD b2
 have m10:=m1 (w.heap.size) tO
 have m20:=m2 (w.heap.size) tO
 have m11:=m1 (w.heap.size+1) tO
 have m21:=m2 (w.heap.size+1) tO
 have m12:=m1 (w.heap.size+1+1) tO
 have m22:=m2 (w.heap.size+1+1) tO
 have m13:=m1 (w.heap.size+1+1+1) tO
 have m23:=m2 (w.heap.size+1+1+1) tO
 have o1:=h1
 have o2:=h2
 obtain ⟨a1,q1,e1,_⟩:=h1.seg
 obtain ⟨a2,q2,e2,_⟩:=h2.seg
 subst e1 e2
 clear h1 h2 e
 go_enter Tryz.func205,Tryz.ntmps205
 go_wp2_with fail;refine au w zB fun bb=>?_;refine (T.out _).mono ?_;rintro _ w1 ⟨⟨y1,y2,rfl,aO,aQ,dH,dF⟩,ag⟩;obtain ⟨aV,ak,zz⟩:=dV bb ag (b:=w.heap.size);(try simp at ak);(try simp [go_sem] at zz);replace bX:=dx zz;clear zz ag bb
 obtain ⟨⟨aD,aF⟩,dQ,dR⟩:=sO (w:=w) (w.heap.size+1+1+1+1) dH dF b1 b2;obtain ⟨ya,yp,rfl,_⟩:=aO.seg;obtain ⟨yb,yq,rfl,_⟩:=aQ.seg
 go_wp2
 refine rE Tryz.results205 rfl (az x.1 (.slice ya x.1.cells.length yp) (.slice yb x.1.words.length yq) tY) rfl (aj x.2.1 tY) ⟨⟨_,_,rfl,?_,?_,dQ,dR⟩,dA zB⟩
 ·exact zP aO aO aD
 ·exact zP aQ aQ aF
end
section
open Go.RowKit
attribute [local simp] aI
attribute [local go_sem ↓] aH aU aM bz aN bB aA aK ax aB
theorem qm (c:Ch) (h:Ha) (v1 v2:Value) (lo:Nat) (w:World) (h1:ah w lo v1 c.cells) (h2:ai w lo v2 c.words) (hlo:lo≤w.heap.size) (hc0:0≤h.cell) (hc1:h.cell<c.cells.length) :
  (∀ (hs:h.seen=0) (hx:h.come≤h.cell) (hy:((eP c h 4 16 10).2.pos == 16)=true),Calls Tryz.prog 205 #[.agg (af c v1 v2),.agg (aa h)] w fun r w'=>cK w w' lo v1 v2 (fu c h) r) ∧
  (∀ (hs:h.seen=1) (hx:h.come≤h.cell) (hy:((eP c h 4 16 10).2.pos == 16)=true),Calls Tryz.prog 205 #[.agg (af c v1 v2),.agg (aa h)] w fun r w'=>cK w w' lo v1 v2 (fu c h) r):=by
 constructor
 case' left =>
  intro hs hx hy
  have mA:Hid (0=0):=rfl
 case' right =>
  intro hs hx hy
  have mB:Hid (0=0):=rfl
 all_goals
  have e:fu c h=done (eP c h 4 16 10).1 (qf (eP c h 4 16 10).2):=by simp [fu,hs,show ¬ h.cell<h.come by omega]
  rw [e]
  have T:=Lib.hid fun W a b=>nX c h 4 16 10 v1 v2 lo W a b hc0 hc1
  have I:=Lib.hid (nY c h 4 16 10)
  generalize eP c h 4 16 10=y at *
  have hyn:qf y.2={ y.2 with nxt:=1 }:=by simp at hy;simp [qf,hy]
  rw [hyn]
  clear hyn
  have D:=Lib.hid fun v3 W=>aW y.1 ({ y.2 with nxt:=1 }) v1 v3 lo W
  generalize done y.1 ({ y.2 with nxt:=1 })=x at *
  have b1:=jc h1
  have b2:=jc h2
  have m1:=lD b1
  have m2:=lD b2
  have m10:=m1 (w.heap.size) tO
  have m20:=m2 (w.heap.size) tO
  have m11:=m1 (w.heap.size+1) tO
  have m21:=m2 (w.heap.size+1) tO
  have m12:=m1 (w.heap.size+1+1) tO
  have m22:=m2 (w.heap.size+1+1) tO
  have m13:=m1 (w.heap.size+1+1+1) tO
  have m23:=m2 (w.heap.size+1+1+1) tO
  have o1:=h1
  have o2:=h2
  obtain ⟨a1,q1,e1,_⟩:=h1.seg
  obtain ⟨a2,q2,e2,_⟩:=h2.seg
  subst e1 e2
  have hx2:¬ h.cell<h.come:=by omega
  clear h1 h2 e hx
  go_enter Tryz.func205,Tryz.ntmps205
  go_wp2_with fail
  refine (T.out _ (zO o1 o1) (zO o2 o2) (by simp;omega)).mono ?_
  rintro _ w1 ⟨v3,rfl,p1,p2,f3,hO⟩
  have ak:=hO.2.2.2.1;(try (simp at ak));have zz:=Bl hO (b:=w.heap.size);(try simp [go_sem] at zz);replace bX:=dx zz;clear zz
  rw [← I.out]
  obtain ⟨a3,q3,rfl,_⟩:=p2.seg
  have tL:gV (Value.slice a1 c.cells.length q1).ownBlock (Value.slice a2 c.words.length q2).ownBlock w w1:=fA (dA zB) hO
  clear hO
  obtain ⟨k0,k1,k2,k3⟩:=jW (a:=w.heap.size) (b:=w1.heap.size)
  go_wp2_with fail;refine au w1 zB fun bk=>?_;refine (D.out _ _ (zO p1 p1) (zO p2 p2)).mono ?_;rintro _ w2 ⟨⟨y1,y2,rfl,aO,aQ,dH,dF⟩,hbw2⟩;have aR:=hbw2.size;(try simp at aR);have zz:=AZ hbw2 (b:=w.heap.size);(first|simp [go_sem,bX,k0,k1,k2,k3] at zz|simp [go_sem] at zz|skip);replace bX:=dx zz;clear zz;have dW:=bT bk hbw2;clear hbw2 bk
  have hO2:=fA tL (dA dW)
  replace dF:=f3.trans dF tS
  clear tL f3
  obtain ⟨⟨aD,aF⟩,dQ,dR⟩:=sO (w:=w) (w.heap.size+1+1+1+1) dH dF b1 b2;obtain ⟨ya,yp,rfl,_⟩:=aO.seg;obtain ⟨yb,yq,rfl,_⟩:=aQ.seg
  go_wp2
  refine rE Tryz.results205 rfl (az x.1 (.slice ya x.1.cells.length yp) (.slice yb x.1.words.length yq) tY) rfl (aj x.2.1 tY) ⟨⟨_,_,rfl,?_,?_,dQ,dR⟩,by exact zN⟩
  ·exact zP aO aO aD
  ·exact zP aQ aQ aF
theorem Cm (c:Ch) (h:Ha) (v1 v2:Value) (lo:Nat) (w:World) (h1:ah w lo v1 c.cells) (h2:ai w lo v2 c.words) (hlo:lo≤w.heap.size) (hc0:0≤h.cell) (hc1:h.cell<c.cells.length) (hs:h.seen=0) (hx:h.come≤h.cell) (hy:((eP c h 4 16 10).2.pos == 16)=true) :
  Calls Tryz.prog 205 #[.agg (af c v1 v2),.agg (aa h)] w fun r w'=>cK w w' lo v1 v2 (fu c h) r:=(qm c h v1 v2 lo w h1 h2 hlo hc0 hc1).1 hs hx hy
theorem Cn (c:Ch) (h:Ha) (v1 v2:Value) (lo:Nat) (w:World) (h1:ah w lo v1 c.cells) (h2:ai w lo v2 c.words) (hlo:lo≤w.heap.size) (hc0:0≤h.cell) (hc1:h.cell<c.cells.length) (hs:h.seen=1) (hx:h.come≤h.cell) (hy:((eP c h 4 16 10).2.pos == 16)=true) :
  Calls Tryz.prog 205 #[.agg (af c v1 v2),.agg (aa h)] w fun r w'=>cK w w' lo v1 v2 (fu c h) r:=(qm c h v1 v2 lo w h1 h2 hlo hc0 hc1).2 hs hx hy
theorem qo (c:Ch) (h:Ha) (v1 v2:Value) (lo:Nat) (w:World) (h1:ah w lo v1 c.cells) (h2:ai w lo v2 c.words) (hlo:lo≤w.heap.size) (hc0:0≤h.cell) (hc1:h.cell<c.cells.length) :
  (∀ (hs:h.seen=0) (hx:h.come≤h.cell) (hy:((eP c h 4 16 10).2.pos == 16)=false),Calls Tryz.prog 205 #[.agg (af c v1 v2),.agg (aa h)] w fun r w'=>cK w w' lo v1 v2 (fu c h) r) ∧
  (∀ (hs:h.seen=1) (hx:h.come≤h.cell) (hy:((eP c h 4 16 10).2.pos == 16)=false),Calls Tryz.prog 205 #[.agg (af c v1 v2),.agg (aa h)] w fun r w'=>cK w w' lo v1 v2 (fu c h) r):=by
 constructor
 case' left =>
  intro hs hx hy
  have mA:Hid (0=0):=rfl
 case' right =>
  intro hs hx hy
  have mB:Hid (0=0):=rfl
 all_goals
  have e:fu c h=done (eP c h 4 16 10).1 (qf (eP c h 4 16 10).2):=by simp [fu,hs,show ¬ h.cell<h.come by omega]
  rw [e]
  have T:=Lib.hid fun W a b=>nX c h 4 16 10 v1 v2 lo W a b hc0 hc1
  have I:=Lib.hid (nY c h 4 16 10)
  generalize eP c h 4 16 10=y at *
  have hyn:qf y.2=y.2:=by simp at hy;simp [qf,hy]
  rw [hyn]
  clear hyn
  have D:=Lib.hid fun v3 W=>aW y.1 (y.2) v1 v3 lo W
  generalize done y.1 (y.2)=x at *
  have b1:=jc h1
  have b2:=jc h2
  have m1:=lD b1
  have m2:=lD b2
  have m10:=m1 (w.heap.size) tO
  have m20:=m2 (w.heap.size) tO
  have m11:=m1 (w.heap.size+1) tO
  have m21:=m2 (w.heap.size+1) tO
  have m12:=m1 (w.heap.size+1+1) tO
  have m22:=m2 (w.heap.size+1+1) tO
  have m13:=m1 (w.heap.size+1+1+1) tO
  have m23:=m2 (w.heap.size+1+1+1) tO
  have o1:=h1
  have o2:=h2
  obtain ⟨a1,q1,e1,_⟩:=h1.seg
  obtain ⟨a2,q2,e2,_⟩:=h2.seg
  subst e1 e2
  have hx2:¬ h.cell<h.come:=by omega
  clear h1 h2 e hx
  go_enter Tryz.func205,Tryz.ntmps205
  go_wp2_with fail
  refine (T.out _ (zO o1 o1) (zO o2 o2) (by simp;omega)).mono ?_
  rintro _ w1 ⟨v3,rfl,p1,p2,f3,hO⟩
  have ak:=hO.2.2.2.1;(try (simp at ak));have zz:=Bl hO (b:=w.heap.size);(try simp [go_sem] at zz);replace bX:=dx zz;clear zz
  rw [← I.out]
  obtain ⟨a3,q3,rfl,_⟩:=p2.seg
  have tL:gV (Value.slice a1 c.cells.length q1).ownBlock (Value.slice a2 c.words.length q2).ownBlock w w1:=fA (dA zB) hO
  clear hO
  obtain ⟨k0,k1,k2,k3⟩:=jW (a:=w.heap.size) (b:=w1.heap.size)
  go_wp2_with fail;refine au w1 zB fun bk=>?_;refine (D.out _ _ (zO p1 p1) (zO p2 p2)).mono ?_;rintro _ w2 ⟨⟨y1,y2,rfl,aO,aQ,dH,dF⟩,hbw2⟩;have aR:=hbw2.size;(try simp at aR);have zz:=AZ hbw2 (b:=w.heap.size);(first|simp [go_sem,bX,k0,k1,k2,k3] at zz|simp [go_sem] at zz|skip);replace bX:=dx zz;clear zz;have dW:=bT bk hbw2;clear hbw2 bk
  have hO2:=fA tL (dA dW)
  replace dF:=f3.trans dF tS
  clear tL f3
  obtain ⟨⟨aD,aF⟩,dQ,dR⟩:=sO (w:=w) (w.heap.size+1+1+1+1) dH dF b1 b2;obtain ⟨ya,yp,rfl,_⟩:=aO.seg;obtain ⟨yb,yq,rfl,_⟩:=aQ.seg
  go_wp2
  refine rE Tryz.results205 rfl (az x.1 (.slice ya x.1.cells.length yp) (.slice yb x.1.words.length yq) tY) rfl (aj x.2.1 tY) ⟨⟨_,_,rfl,?_,?_,dQ,dR⟩,by exact zN⟩
  ·exact zP aO aO aD
  ·exact zP aQ aQ aF
theorem Co (c:Ch) (h:Ha) (v1 v2:Value) (lo:Nat) (w:World) (h1:ah w lo v1 c.cells) (h2:ai w lo v2 c.words) (hlo:lo≤w.heap.size) (hc0:0≤h.cell) (hc1:h.cell<c.cells.length) (hs:h.seen=0) (hx:h.come≤h.cell) (hy:((eP c h 4 16 10).2.pos == 16)=false) :
  Calls Tryz.prog 205 #[.agg (af c v1 v2),.agg (aa h)] w fun r w'=>cK w w' lo v1 v2 (fu c h) r:=(qo c h v1 v2 lo w h1 h2 hlo hc0 hc1).1 hs hx hy
theorem Cq (c:Ch) (h:Ha) (v1 v2:Value) (lo:Nat) (w:World) (h1:ah w lo v1 c.cells) (h2:ai w lo v2 c.words) (hlo:lo≤w.heap.size) (hc0:0≤h.cell) (hc1:h.cell<c.cells.length) (hs:h.seen=1) (hx:h.come≤h.cell) (hy:((eP c h 4 16 10).2.pos == 16)=false) :
  Calls Tryz.prog 205 #[.agg (af c v1 v2),.agg (aa h)] w fun r w'=>cK w w' lo v1 v2 (fu c h) r:=(qo c h v1 v2 lo w h1 h2 hlo hc0 hc1).2 hs hx hy
theorem Cr (c:Ch) (h:Ha) (v1 v2:Value) (lo:Nat) (w:World) (h1:ah w lo v1 c.cells) (h2:ai w lo v2 c.words) (hlo:lo≤w.heap.size) (hc0:0≤h.cell) (hc1:h.cell<c.cells.length) :
  bY 205 c h v1 v2 lo w (fu c h):=by
 by_cases s2:h.seen=2
 ·exact Ie c h v1 v2 lo w h1 h2 hc0 hc1 s2
 ·by_cases s3:h.seen=3
  ·exact Ig c h v1 v2 lo w h1 h2 hc0 hc1 (by simpa using s3) (by simpa using s2)
  ·by_cases s0:h.seen=0
   ·by_cases hx:h.cell<h.come
    ·exact EY c h v1 v2 lo w h1 h2 hc0 hc1 s0 hx
    ·cases hy:(eP c h 4 16 10).2.pos == 16 with
     | true=>exact Cm c h v1 v2 lo w h1 h2 hlo hc0 hc1 s0 tO hy
     | false=>exact Co c h v1 v2 lo w h1 h2 hlo hc0 hc1 s0 tO hy
   ·by_cases s1:h.seen=1
    ·by_cases hx:h.cell<h.come
     ·exact EZ c h v1 v2 lo w h1 h2 hc0 hc1 s1 hx
     ·cases hy:(eP c h 4 16 10).2.pos == 16 with
      | true=>exact Cn c h v1 v2 lo w h1 h2 hlo hc0 hc1 s1 tO hy
      | false=>exact Cq c h v1 v2 lo w h1 h2 hlo hc0 hc1 s1 tO hy
    ·exact Fa c h v1 v2 lo w h1 h2 (by simpa using s2) (by simpa using s3) (by simpa using s0) (by simpa using s1)
end
end Go.Proofs.YtffhjmepfojhnaaGreat
