/-
  Steps of receiving of the reference model, on hands and channels that are kept whole; lists lie in memory and hold at most 2 ^ 40 elements.
-/
import Derived.Test.YtffhjmepfojhnaaGreatR17
import Derived.BigRegion
set_option maxRecDepth 100000
set_option maxHeartbeats 2000000
set_option linter.unusedSimpArgs false
set_option linter.unusedVariables false
namespace Go.Proofs.YtffhjmepfojhnaaGreat
section
open Go.RowKit
attribute [local simp] aC
attribute [local go_sem ↓] aB aU aL bB aM bC aG aN au aF
theorem JN (c:Ch) (h:Ha) (a b:Option Addr) (p q:Nat) (w:World) (h1:eY w w.heap.size a c.cells) (h2:eQ w w.heap.size b c.words) (hk:bf c h 9 15 2=false) :
  Calls Tryz.prog 190 #[.agg (af c (.slice a c.cells.length p) (.slice b c.words.length q)),.agg (aa h)] w fun r w'=>bV w w' (bg c h) r:=by
 have e:bg c h=nothing:=by simp [bg,hk]
 rw [e]
 have H1:=Lib.hid h1
 have H2:=Lib.hid h2
 have T:=Lib.hid fun W=>gH W w.heap.size (.slice none 0 0) (.slice none 0 0)
 generalize nothing=x at *
 clear h1 h2 e
 have d1:∀ j,(Value.slice none 0 0).ownBlock=some j→w.heap.size+1+1+1+1≤j:=fun j hj=>by cases hj
 have d2:=d1
 go_enter Tryz.func190,Tryz.ntmps190
 go_wp2_with fail;refine ax w zB fun bb=>?_;refine (d9 c h 9 15 2 a b p q _ (aT H1 bb) (aT H2 bb)).mono ?_;rintro _ w1 ⟨rfl,ah⟩;obtain ⟨aW,ay,zz⟩:=dZ bb ah (b:=w.heap.size);(try simp at ay);(try simp [go_sem] at zz);replace bX:=dF zz;clear zz ah bb
 rw [hk]
 go_wp2_with fail;refine ax w zB fun bb=>?_;refine (T.out _).mono ?_;rintro _ w2 ⟨⟨y1,y2,rfl,aV,aX,dL,dI⟩,hbw2⟩;obtain ⟨dE,bu,zz⟩:=dZ bb hbw2 (b:=w.heap.size);(try simp at bu);(first|simp [go_sem,bX] at zz|simp [go_sem] at zz|skip);replace bX:=dF zz;clear zz hbw2 bb
 obtain ⟨⟨aI,aJ⟩,dP,dQ⟩:=lL (w:=w) (w.heap.size+1+1+1+1) dL dI d1 d2;obtain ⟨ya,yp,rfl,_⟩:=aV.seg;obtain ⟨yb,yq,rfl,_⟩:=aX.seg
 go_wp2
 refine rE Tryz.results190 rfl (az x.1 (.slice ya x.1.cells.length yp) (.slice yb x.1.words.length yq) tY) rfl (aj x.2.1 tY) ⟨⟨_,_,rfl,?_,?_,dP,dQ⟩,by exact zB⟩
 ·exact zP aV aV aI
 ·exact zP aX aX aJ
theorem JO (c:Ch) (h:Ha) (a b:Option Addr) (p q:Nat) (w:World) (h1:eY w w.heap.size a c.cells) (z1:a=none→p=0) (h2:eQ w w.heap.size b c.words) (z2:b=none→q=0) (hk:bf c h 9 15 2=true) (hp0:h.pos=11) :
  Calls Tryz.prog 190 #[.agg (af c (.slice a c.cells.length p) (.slice b c.words.length q)),.agg (aa h)] w fun r w'=>bV w w' (bg c h) r:=by
 obtain ⟨k1,k2,_,_⟩:=bQ hk
 obtain ⟨n1,n2⟩:=dU k1
 have m1:c.cells.length≤1099511627776:=by omega
 have m2:c.words.length≤1099511627776:=by omega
 have H1:=Lib.hid h1
 have H2:=Lib.hid h2
 have Z1:=Lib.hid z1
 have Z2:=Lib.hid z2
 have e:bg c h=done (c) ({ h with come:=c.sent,pos:=12 }):=by simp [bg,hk,hp0]
 rw [e]
 have D:=Lib.hid fun v1 v2 W=>bE (c) ({ h with come:=c.sent,pos:=12 }) v1 v2 w.heap.size W
 generalize done (c) ({ h with come:=c.sent,pos:=12 })=x at *
 clear h1 h2 z1 z2 e k1 k2 n1 n2
 go_enter Tryz.func190,Tryz.ntmps190
 go_wp2_with fail;refine ax w zB fun bb=>?_;refine (d9 c h 9 15 2 a b p q _ (aT H1 bb) (aT H2 bb)).mono ?_;rintro _ w1 ⟨rfl,ah⟩;obtain ⟨aW,ay,zz⟩:=dZ bb ah (b:=w.heap.size);(try simp at ay);(try simp [go_sem] at zz);replace bX:=dF zz;clear zz ah bb
 rw [hk]
 go_wp2_with fail;refine ax w zB fun bb=>?_;refine (dA c a b p q _ (aT H1 bb) Z1.out (aT H2 bb) Z2.out m1 m2).mono ?_;rintro _ w2 ⟨⟨v1,v2,rfl,o1,o2⟩,hbw2⟩;obtain ⟨dE,bu,zz⟩:=dZ bb hbw2 (b:=w.heap.size);(try simp at bu);(first|simp [go_sem,bX] at zz|simp [go_sem] at zz|skip);replace bX:=dF zz;clear zz hbw2 bb
 have d1:=jd o1 (w.heap.size+1+1+1+1)
 have d2:=jd o2 (w.heap.size+1+1+1+1)
 have p1:=av (lo':=w.heap.size) o1 tO
 have p2:=av (lo':=w.heap.size) o2 tO
 obtain ⟨a1,q1,rfl,_⟩:=o1.seg
 obtain ⟨a2,q2,rfl,_⟩:=o2.seg
 go_wp2_with fail;refine ax w zB fun bb=>?_;refine (D.out _ _ _ (zO p1 o1) (zO p2 o2)).mono ?_;rintro _ w3 ⟨⟨y1,y2,rfl,aV,aX,dL,dI⟩,aO⟩;obtain ⟨ig,df,zz⟩:=dZ bb aO (b:=w.heap.size);(try simp at df);(first|simp [go_sem,bX] at zz|simp [go_sem] at zz|skip);replace bX:=dF zz;clear zz aO bb
 obtain ⟨⟨aI,aJ⟩,dP,dQ⟩:=lL (w:=w) (w.heap.size+1+1+1+1) dL dI d1 d2;obtain ⟨ya,yp,rfl,_⟩:=aV.seg;obtain ⟨yb,yq,rfl,_⟩:=aX.seg
 go_wp2
 refine rE Tryz.results190 rfl (az x.1 (.slice ya x.1.cells.length yp) (.slice yb x.1.words.length yq) tY) rfl (aj x.2.1 tY) ⟨⟨_,_,rfl,?_,?_,dP,dQ⟩,by exact zB⟩
 ·exact zP aV aV aI
 ·exact zP aX aX aJ
theorem JP (c:Ch) (h:Ha) (a b:Option Addr) (p q:Nat) (w:World) (h1:eY w w.heap.size a c.cells) (z1:a=none→p=0) (h2:eQ w w.heap.size b c.words) (z2:b=none→q=0) (hk:bf c h 9 15 2=true) (hp0:h.pos=9) (hs:¬ c.got=40) (CY:0≤c.got∧c.got≤40) :
  Calls Tryz.prog 190 #[.agg (af c (.slice a c.cells.length p) (.slice b c.words.length q)),.agg (aa h)] w fun r w'=>bV w w' (bg c h) r:=by
 obtain ⟨k1,k2,_,_⟩:=bQ hk
 obtain ⟨n1,n2⟩:=dU k1
 have m1:c.cells.length≤1099511627776:=by omega
 have m2:c.words.length≤1099511627776:=by omega
 have H1:=Lib.hid h1
 have H2:=Lib.hid h2
 have Z1:=Lib.hid z1
 have Z2:=Lib.hid z2
 have e:bg c h=done ({ c with got:=c.got+1 }) ({ h with cell:=c.got,pos:=10 }):=by simp [bg,hk,hp0,wW,hs]
 rw [e]
 have D:=Lib.hid fun v1 v2 W=>bE ({ c with got:=c.got+1 }) ({ h with cell:=c.got,pos:=10 }) v1 v2 w.heap.size W
 generalize done ({ c with got:=c.got+1 }) ({ h with cell:=c.got,pos:=10 })=x at *
 clear h1 h2 z1 z2 e k1 k2 n1 n2
 go_enter Tryz.func190,Tryz.ntmps190
 go_wp2_with fail;refine ax w zB fun bb=>?_;refine (d9 c h 9 15 2 a b p q _ (aT H1 bb) (aT H2 bb)).mono ?_;rintro _ w1 ⟨rfl,ah⟩;obtain ⟨aW,ay,zz⟩:=dZ bb ah (b:=w.heap.size);(try simp at ay);(try simp [go_sem] at zz);replace bX:=dF zz;clear zz ah bb
 rw [hk]
 go_wp2_with fail;refine ax w zB fun bb=>?_;refine (dA c a b p q _ (aT H1 bb) Z1.out (aT H2 bb) Z2.out m1 m2).mono ?_;rintro _ w2 ⟨⟨v1,v2,rfl,o1,o2⟩,hbw2⟩;obtain ⟨dE,bu,zz⟩:=dZ bb hbw2 (b:=w.heap.size);(try simp at bu);(first|simp [go_sem,bX] at zz|simp [go_sem] at zz|skip);replace bX:=dF zz;clear zz hbw2 bb
 have d1:=jd o1 (w.heap.size+1+1+1+1)
 have d2:=jd o2 (w.heap.size+1+1+1+1)
 have p1:=av (lo':=w.heap.size) o1 tO
 have p2:=av (lo':=w.heap.size) o2 tO
 obtain ⟨a1,q1,rfl,_⟩:=o1.seg
 obtain ⟨a2,q2,rfl,_⟩:=o2.seg
 go_wp2_with fail;refine ax w zB fun bb=>?_;refine (D.out _ _ _ (zO p1 o1) (zO p2 o2)).mono ?_;rintro _ w3 ⟨⟨y1,y2,rfl,aV,aX,dL,dI⟩,aO⟩;obtain ⟨ig,df,zz⟩:=dZ bb aO (b:=w.heap.size);(try simp at df);(first|simp [go_sem,bX] at zz|simp [go_sem] at zz|skip);replace bX:=dF zz;clear zz aO bb
 obtain ⟨⟨aI,aJ⟩,dP,dQ⟩:=lL (w:=w) (w.heap.size+1+1+1+1) dL dI d1 d2;obtain ⟨ya,yp,rfl,_⟩:=aV.seg;obtain ⟨yb,yq,rfl,_⟩:=aX.seg
 go_wp2
 refine rE Tryz.results190 rfl (az x.1 (.slice ya x.1.cells.length yp) (.slice yb x.1.words.length yq) tY) rfl (aj x.2.1 tY) ⟨⟨_,_,rfl,?_,?_,dP,dQ⟩,by exact zB⟩
 ·exact zP aV aV aI
 ·exact zP aX aX aJ
theorem JQ (c:Ch) (h:Ha) (a b:Option Addr) (p q:Nat) (w:World) (h1:eY w w.heap.size a c.cells) (z1:a=none→p=0) (h2:eQ w w.heap.size b c.words) (z2:b=none→q=0) (hk:bf c h 9 15 2=true) (hp0:h.pos=9) (hs:c.got=40) :
  Calls Tryz.prog 190 #[.agg (af c (.slice a c.cells.length p) (.slice b c.words.length q)),.agg (aa h)] w fun r w'=>bV w w' (bg c h) r:=by
 obtain ⟨k1,k2,_,_⟩:=bQ hk
 obtain ⟨n1,n2⟩:=dU k1
 have m1:c.cells.length≤1099511627776:=by omega
 have m2:c.words.length≤1099511627776:=by omega
 have H1:=Lib.hid h1
 have H2:=Lib.hid h2
 have Z1:=Lib.hid z1
 have Z2:=Lib.hid z2
 have e:bg c h=done c (aP 4 0):=by simp [bg,hk,hp0,wW,hs]
 rw [e]
 have D:=Lib.hid fun v1 v2 W=>bE (c) (aP 4 0) v1 v2 w.heap.size W
 generalize done c (aP 4 0)=x at *
 clear h1 h2 z1 z2 e k1 k2 n1 n2
 go_enter Tryz.func190,Tryz.ntmps190
 go_wp2_with fail;refine ax w zB fun bb=>?_;refine (d9 c h 9 15 2 a b p q _ (aT H1 bb) (aT H2 bb)).mono ?_;rintro _ w1 ⟨rfl,ah⟩;obtain ⟨aW,ay,zz⟩:=dZ bb ah (b:=w.heap.size);(try simp at ay);(try simp [go_sem] at zz);replace bX:=dF zz;clear zz ah bb
 rw [hk]
 go_wp2_with fail;refine ax w zB fun bb=>?_;refine (dA c a b p q _ (aT H1 bb) Z1.out (aT H2 bb) Z2.out m1 m2).mono ?_;rintro _ w2 ⟨⟨v1,v2,rfl,o1,o2⟩,hbw2⟩;obtain ⟨dE,bu,zz⟩:=dZ bb hbw2 (b:=w.heap.size);(try simp at bu);(first|simp [go_sem,bX] at zz|simp [go_sem] at zz|skip);replace bX:=dF zz;clear zz hbw2 bb
 have d1:=jd o1 (w.heap.size+1+1+1+1)
 have d2:=jd o2 (w.heap.size+1+1+1+1)
 have p1:=av (lo':=w.heap.size) o1 tO
 have p2:=av (lo':=w.heap.size) o2 tO
 obtain ⟨a1,q1,rfl,_⟩:=o1.seg
 obtain ⟨a2,q2,rfl,_⟩:=o2.seg
 go_wp2_with fail
 go_region_with (first|((go_at_call 130;refine ax w zB fun bb=>?_;refine ax w2 zB fun bk=>?_;refine (fO _ _ _).mono ?_;rintro _ w5 ⟨rfl,dD⟩;have oM:=bT bb dD;have iL:=dD.size;(try simp at iL);have zz:=And.intro (hQ dD (b:=w2.heap.size)) <| And.intro (hQ dD (b:=w.heap.size+1+1+1)) <| And.intro (hQ dD (b:=w.heap.size+1+1)) <| And.intro (hQ dD (b:=w.heap.size+1)) <| hQ dD (b:=w.heap.size);(first|simp [go_sem,bX] at zz|simp [go_sem] at zz|skip);replace bX:=jL zz;clear zz;have jH:=bT bk dD;clear dD bb bk);have r1:=own_below p1 jH;have r2:=own_below p2 jH)|((go_at_call 198;refine ax w zB fun bb=>?_;refine (D.out _ _ _ (zO r1 o1) (zO r2 o2)).mono ?_;rintro _ w3 ⟨⟨y1,y2,rfl,aV,aX,dL,dI⟩,aO⟩;obtain ⟨ig,df,zz⟩:=dZ bb aO (b:=w.heap.size);(try simp at df);(first|simp [go_sem,bX] at zz|simp [go_sem] at zz|skip);replace bX:=dF zz;clear zz aO bb);obtain ⟨⟨aI,aJ⟩,dP,dQ⟩:=lL (w:=w) (w.heap.size+1+1+1+1) dL dI d1 d2;obtain ⟨ya,yp,rfl,_⟩:=aV.seg;obtain ⟨yb,yq,rfl,_⟩:=aX.seg))
 all_goals go_wp2
 all_goals (refine rE Tryz.results190 rfl (az x.1 (.slice ya x.1.cells.length yp) (.slice yb x.1.words.length yq) tY) rfl (aj x.2.1 tY) ⟨⟨_,_,rfl,?_,?_,dP,dQ⟩,by exact zB⟩)
 all_goals (first|exact zP aV aV aI|skip)
 all_goals (first|exact zP aX aX aJ|skip)
end
section
open Go.RowKit
attribute [local simp] aC
attribute [local go_sem ↓] aB aU aL bB aM bC aG aN au aF
theorem JR (c:Ch) (h:Ha) (a b:Option Addr) (p q:Nat) (w:World) (h1:eY w w.heap.size a c.cells) (z1:a=none→p=0) (h2:eQ w w.heap.size b c.words) (z2:b=none→q=0) (hk:bf c h 9 15 2=true) (hp0:h.pos=14) :
  Calls Tryz.prog 190 #[.agg (af c (.slice a c.cells.length p) (.slice b c.words.length q)),.agg (aa h)] w fun r w'=>bV w w' (bg c h) r:=by
 obtain ⟨k1,k2,_,_⟩:=bQ hk
 obtain ⟨n1,n2⟩:=dU k1
 have m1:c.cells.length≤1099511627776:=by omega
 have m2:c.words.length≤1099511627776:=by omega
 have H1:=Lib.hid h1
 have H2:=Lib.hid h2
 have Z1:=Lib.hid z1
 have Z2:=Lib.hid z2
 obtain ⟨c1,c2⟩:=fM k2
 obtain ⟨i,hci⟩:∃ i:Nat,h.cell=(i:Int):=⟨h.cell.toNat,by omega⟩
 have hi:i<c.cells.length:=by omega
 have e:bg c h=done (bP c i 7) (dR h 0):=by simp [bg,hk,hp0,hci]
 rw [e]
 have ST:=Lib.hid fun v1 v2 W=>jq c i 7 v1 v2 w.heap.size W
 have D:=fun v1 v2 W=>bE (bP c i 7) (dR h 0) v1 v2 w.heap.size W
 simp only [ko,j6] at D
 generalize done (bP c i 7) (dR h 0)=x at *
 replace D:=Lib.hid D
 clear h1 h2 z1 z2 e k1 k2 n1 n2 c1 c2
 go_enter Tryz.func190,Tryz.ntmps190
 go_wp2_with fail;refine ax w zB fun bb=>?_;refine (d9 c h 9 15 2 a b p q _ (aT H1 bb) (aT H2 bb)).mono ?_;rintro _ w1 ⟨rfl,ah⟩;obtain ⟨aW,ay,zz⟩:=dZ bb ah (b:=w.heap.size);(try simp at ay);(try simp [go_sem] at zz);replace bX:=dF zz;clear zz ah bb
 rw [hk]
 go_wp2_with fail;refine ax w zB fun bb=>?_;refine (dA c a b p q _ (aT H1 bb) Z1.out (aT H2 bb) Z2.out m1 m2).mono ?_;rintro _ w2 ⟨⟨v1,v2,rfl,o1,o2⟩,hbw2⟩;obtain ⟨dE,bu,zz⟩:=dZ bb hbw2 (b:=w.heap.size);(try simp at bu);(first|simp [go_sem,bX] at zz|simp [go_sem] at zz|skip);replace bX:=dF zz;clear zz hbw2 bb
 have d1:=jd o1 (w.heap.size+1+1+1+1)
 have d2:=jd o2 (w.heap.size+1+1+1+1)
 have p1:=av (lo':=w.heap.size) o1 tO
 have p2:=av (lo':=w.heap.size) o2 tO
 obtain ⟨a1,q1,rfl,_⟩:=o1.seg
 obtain ⟨a2,q2,rfl,_⟩:=o2.seg
 have nw:∀ j,(j<w.heap.size+1+1+1+1∨w2.heap.size≤j)→some j≠(Value.slice a1 c.cells.length q1).ownBlock:=fun j hj e=>by have:=d1 _ e.symm;have:=(o1.lt _ e.symm).2;omega
 have Oc:=nw (w.heap.size) tO
 have M5:=nw (w.heap.size+1) tO
 have M6:=nw (w.heap.size+1+1) tO
 have NG:=nw (w.heap.size+1+1+1) tO
 have Pf:=nw w2.heap.size tO
 obtain ⟨k0,k1,k2,k3⟩:=kZ (a:=w.heap.size) (b:=w2.heap.size)
 go_wp2_with fail
 go_region_held3 (fun w'=>hp w' w2.heap.size=some (.cells (af c (.slice a1 c.cells.length q1) (.slice a2 c.words.length q2)) 31)∧hp w' (w.heap.size+1)=some (.cells (aa h) 49)∧w'.cell? ⟨w.heap.size+1,3,none⟩=some (.int .i64 i))
  (first|(simp [*,go_sem]))
  (first|(go_at_call 203;refine (ST.out _ _ _ (zO p1 o1) (zO p2 o2) hi).mono ?_;rintro _ w4 ⟨rfl,s1,s2,fJ⟩;have iw:=fJ.size;(try (simp at iw));have zz:=And.intro (dB fJ (b:=w2.heap.size) tS (by assumption)) <| And.intro (dB fJ (b:=w.heap.size+1+1+1) tS (by assumption)) <| And.intro (dB fJ (b:=w.heap.size+1+1) tS (by assumption)) <| And.intro (dB fJ (b:=w.heap.size+1) tS (by assumption)) <| dB fJ (b:=w.heap.size) tS (by assumption);(first|simp [go_sem,bX,k0,k1,k2,k3] at zz|simp [go_sem] at zz|skip);replace bX:=jL zz;clear zz;have jG:Below w.heap.size w w4:=iE zB fJ tS (fun k hk=>by have:=d1 k hk;omega);clear fJ)|((go_at_call 206;refine ax w zB fun bb=>?_;refine ax w4 zB fun bk=>?_;refine (pY _ _ _).mono ?_;rintro _ w5 ⟨rfl,dD⟩;have oM:=bT bb dD;have iL:=dD.size;(try simp at iL);have zz:=And.intro (hQ dD (b:=w2.heap.size)) <| And.intro (hQ dD (b:=w.heap.size+1+1+1)) <| And.intro (hQ dD (b:=w.heap.size+1+1)) <| And.intro (hQ dD (b:=w.heap.size+1)) <| hQ dD (b:=w.heap.size);(first|simp [go_sem,bX,k0,k1,k2,k3] at zz|simp [go_sem] at zz|skip);replace bX:=jL zz;clear zz;have jH:=bT bk dD;clear dD bb bk);have r1:=own_below s1 jH;have r2:=own_below s2 jH)|((go_at_call 198;refine ax w zB fun bb=>?_;refine (D.out _ _ _ (zO r1 o1) (zO r2 o2)).mono ?_;rintro _ w3 ⟨⟨y1,y2,rfl,aV,aX,dL,dI⟩,aO⟩;have ig:=bT bb aO;have df:=aO.size;(try simp at df);have zz:=And.intro (hQ aO (b:=w2.heap.size)) <| And.intro (hQ aO (b:=w.heap.size+1+1+1)) <| And.intro (hQ aO (b:=w.heap.size+1+1)) <| And.intro (hQ aO (b:=w.heap.size+1)) <| hQ aO (b:=w.heap.size);(first|simp [go_sem,bX,k0,k1,k2,k3] at zz|simp [go_sem] at zz|skip);replace bX:=jL zz;clear zz aO bb);obtain ⟨⟨aI,aJ⟩,dP,dQ⟩:=lL (w:=w) (w.heap.size+1+1+1+1) dL dI d1 d2;obtain ⟨ya,yp,rfl,_⟩:=aV.seg;obtain ⟨yb,yq,rfl,_⟩:=aX.seg))
 all_goals go_wp2
 all_goals (refine rE Tryz.results190 rfl (az x.1 (.slice ya x.1.cells.length yp) (.slice yb x.1.words.length yq) tY) rfl (aj x.2.1 tY) ⟨⟨_,_,rfl,?_,?_,dP,dQ⟩,by exact zB⟩)
 all_goals (first|exact zP aV aV aI|skip)
 all_goals (first|exact zP aX aX aJ|skip)
theorem JS (c:Ch) (h:Ha) (a b:Option Addr) (p q:Nat) (w:World) (h1:eY w w.heap.size a c.cells) (z1:a=none→p=0) (h2:eQ w w.heap.size b c.words) (z2:b=none→q=0) (hk:bf c h 9 15 2=true) (hp0:h.pos=15) :
  Calls Tryz.prog 190 #[.agg (af c (.slice a c.cells.length p) (.slice b c.words.length q)),.agg (aa h)] w fun r w'=>bV w w' (bg c h) r:=by
 obtain ⟨k1,k2,_,_⟩:=bQ hk
 obtain ⟨n1,n2⟩:=dU k1
 have m1:c.cells.length≤1099511627776:=by omega
 have m2:c.words.length≤1099511627776:=by omega
 have H1:=Lib.hid h1
 have H2:=Lib.hid h2
 have Z1:=Lib.hid z1
 have Z2:=Lib.hid z2
 obtain ⟨c1,c2⟩:=fM k2
 obtain ⟨i,hci⟩:∃ i:Nat,h.cell=(i:Int):=⟨h.cell.toNat,by omega⟩
 have hi:i<c.cells.length:=by omega
 have e:bg c h=done (bP c i 9) (begun h.code h.elem h.beg):=by simp [bg,hk,hp0,hci,anew]
 rw [e]
 have ST:=Lib.hid fun v1 v2 W=>jq c i 9 v1 v2 w.heap.size W
 have D:=fun v1 v2 W=>bE (bP c i 9) (begun h.code h.elem h.beg) v1 v2 w.heap.size W
 simp only [ko,j6] at D
 generalize done (bP c i 9) (begun h.code h.elem h.beg)=x at *
 replace D:=Lib.hid D
 clear h1 h2 z1 z2 e k1 k2 n1 n2 c1 c2
 go_enter Tryz.func190,Tryz.ntmps190
 go_wp2_with fail;refine ax w zB fun bb=>?_;refine (d9 c h 9 15 2 a b p q _ (aT H1 bb) (aT H2 bb)).mono ?_;rintro _ w1 ⟨rfl,ah⟩;obtain ⟨aW,ay,zz⟩:=dZ bb ah (b:=w.heap.size);(try simp at ay);(try simp [go_sem] at zz);replace bX:=dF zz;clear zz ah bb
 rw [hk]
 go_wp2_with fail;refine ax w zB fun bb=>?_;refine (dA c a b p q _ (aT H1 bb) Z1.out (aT H2 bb) Z2.out m1 m2).mono ?_;rintro _ w2 ⟨⟨v1,v2,rfl,o1,o2⟩,hbw2⟩;obtain ⟨dE,bu,zz⟩:=dZ bb hbw2 (b:=w.heap.size);(try simp at bu);(first|simp [go_sem,bX] at zz|simp [go_sem] at zz|skip);replace bX:=dF zz;clear zz hbw2 bb
 have d1:=jd o1 (w.heap.size+1+1+1+1)
 have d2:=jd o2 (w.heap.size+1+1+1+1)
 have p1:=av (lo':=w.heap.size) o1 tO
 have p2:=av (lo':=w.heap.size) o2 tO
 obtain ⟨a1,q1,rfl,_⟩:=o1.seg
 obtain ⟨a2,q2,rfl,_⟩:=o2.seg
 have nw:∀ j,(j<w.heap.size+1+1+1+1∨w2.heap.size≤j)→some j≠(Value.slice a1 c.cells.length q1).ownBlock:=fun j hj e=>by have:=d1 _ e.symm;have:=(o1.lt _ e.symm).2;omega
 have Oc:=nw (w.heap.size) tO
 have M5:=nw (w.heap.size+1) tO
 have M6:=nw (w.heap.size+1+1) tO
 have NG:=nw (w.heap.size+1+1+1) tO
 have Pf:=nw w2.heap.size tO
 obtain ⟨k0,k1,k2,k3⟩:=kZ (a:=w.heap.size) (b:=w2.heap.size)
 go_wp2_with fail
 go_region_held3 (fun w'=>hp w' w2.heap.size=some (.cells (af c (.slice a1 c.cells.length q1) (.slice a2 c.words.length q2)) 31)∧hp w' (w.heap.size+1)=some (.cells (aa h) 49)∧w'.cell? ⟨w.heap.size+1,3,none⟩=some (.int .i64 i))
  (first|(simp [*,go_sem]))
  (first|(go_at_call 203;refine (ST.out _ _ _ (zO p1 o1) (zO p2 o2) hi).mono ?_;rintro _ w4 ⟨rfl,s1,s2,fJ⟩;have iw:=fJ.size;(try (simp at iw));have zz:=And.intro (dB fJ (b:=w2.heap.size) tS (by assumption)) <| And.intro (dB fJ (b:=w.heap.size+1+1+1) tS (by assumption)) <| And.intro (dB fJ (b:=w.heap.size+1+1) tS (by assumption)) <| And.intro (dB fJ (b:=w.heap.size+1) tS (by assumption)) <| dB fJ (b:=w.heap.size) tS (by assumption);(first|simp [go_sem,bX,k0,k1,k2,k3] at zz|simp [go_sem] at zz|skip);replace bX:=jL zz;clear zz;have jG:Below w.heap.size w w4:=iE zB fJ tS (fun k hk=>by have:=d1 k hk;omega);clear fJ)|((go_at_call 207;refine ax w zB fun bb=>?_;refine ax w4 zB fun bk=>?_;refine (jW _ _).mono ?_;rintro _ w5 ⟨rfl,dD⟩;have oM:=bT bb dD;have iL:=dD.size;(try simp at iL);have zz:=And.intro (hQ dD (b:=w2.heap.size)) <| And.intro (hQ dD (b:=w.heap.size+1+1+1)) <| And.intro (hQ dD (b:=w.heap.size+1+1)) <| And.intro (hQ dD (b:=w.heap.size+1)) <| hQ dD (b:=w.heap.size);(first|simp [go_sem,bX,k0,k1,k2,k3] at zz|simp [go_sem] at zz|skip);replace bX:=jL zz;clear zz;have jH:=bT bk dD;clear dD bb bk);have r1:=own_below s1 jH;have r2:=own_below s2 jH)|((go_at_call 198;refine ax w zB fun bb=>?_;refine (D.out _ _ _ (zO r1 o1) (zO r2 o2)).mono ?_;rintro _ w3 ⟨⟨y1,y2,rfl,aV,aX,dL,dI⟩,aO⟩;have ig:=bT bb aO;have df:=aO.size;(try simp at df);have zz:=And.intro (hQ aO (b:=w2.heap.size)) <| And.intro (hQ aO (b:=w.heap.size+1+1+1)) <| And.intro (hQ aO (b:=w.heap.size+1+1)) <| And.intro (hQ aO (b:=w.heap.size+1)) <| hQ aO (b:=w.heap.size);(first|simp [go_sem,bX,k0,k1,k2,k3] at zz|simp [go_sem] at zz|skip);replace bX:=jL zz;clear zz aO bb);obtain ⟨⟨aI,aJ⟩,dP,dQ⟩:=lL (w:=w) (w.heap.size+1+1+1+1) dL dI d1 d2;obtain ⟨ya,yp,rfl,_⟩:=aV.seg;obtain ⟨yb,yq,rfl,_⟩:=aX.seg))
 all_goals go_wp2
 all_goals (refine rE Tryz.results190 rfl (az x.1 (.slice ya x.1.cells.length yp) (.slice yb x.1.words.length yq) tY) rfl (aj x.2.1 tY) ⟨⟨_,_,rfl,?_,?_,dP,dQ⟩,by exact zB⟩)
 all_goals (first|exact zP aV aV aI|skip)
 all_goals (first|exact zP aX aX aJ|skip)
theorem uC (c:Ch) (h:Ha) (a b:Option Addr) (p q:Nat) (w:World) (h1:eY w w.heap.size a c.cells) (z1:a=none→p=0) (h2:eQ w w.heap.size b c.words) (z2:b=none→q=0) (hk:bf c h 9 15 2=true) (hp0:h.pos=13) :
  (∀ (ht:fo c h.wait 1=true),Calls Tryz.prog 190 #[.agg (af c (.slice a c.cells.length p) (.slice b c.words.length q)),.agg (aa h)] w fun r w'=>bV w w' (bg c h) r) ∧
  (∀ (ht:fo c h.wait 1=false),Calls Tryz.prog 190 #[.agg (af c (.slice a c.cells.length p) (.slice b c.words.length q)),.agg (aa h)] w fun r w'=>bV w w' (bg c h) r):=by
 constructor
 case' left =>
  intro ht
  have mA:Hid (0=0):=rfl
 case' right =>
  intro ht
  have mB:Hid (0=0):=rfl
 all_goals
  obtain ⟨k1,k2,_,_⟩:=bQ hk
  obtain ⟨n1,n2⟩:=dU k1
  have m1:c.cells.length≤1099511627776:=by omega
  have m2:c.words.length≤1099511627776:=by omega
  have H1:=Lib.hid h1
  have H2:=Lib.hid h2
  have Z1:=Lib.hid z1
  have Z2:=Lib.hid z2
  first
  | (replace mA:=mA;have e:bg c h=done (dN c h.wait 1) ({ h with pos:=14 }):=by simp [bg,hk,hp0,wY,ht])
  | (replace mB:=mB;have e:bg c h=done (dN c h.wait 1) ({ h with pos:=15 }):=by simp [bg,hk,hp0,wY,ht])
  rw [e]
  have K:=fun a b p q W x1 x2 x3 x4=>oJ c h.wait 1 a b p q W x1 x2 x3 x4 m1 m2
  first
  | (replace mA:=mA;have D:=fun v1 v2 W=>bE (dN c h.wait 1) ({ h with pos:=14 }) v1 v2 w.heap.size W)
  | (replace mB:=mB;have D:=fun v1 v2 W=>bE (dN c h.wait 1) ({ h with pos:=15 }) v1 v2 w.heap.size W)
  simp only [rA,qc] at D
  rw [ht] at K
  first
  | (replace mA:=mA;generalize done (dN c h.wait 1) ({ h with pos:=14 })=x at *)
  | (replace mB:=mB;generalize done (dN c h.wait 1) ({ h with pos:=15 })=x at *)
  generalize (dN c h.wait 1).words=tw at *
  replace K:=Lib.hid K
  replace D:=Lib.hid D
  clear ht
  clear h1 h2 z1 z2 e k1 k2 n1 n2
  go_enter Tryz.func190,Tryz.ntmps190
  go_wp2_with fail;refine ax w zB fun bb=>?_;refine (d9 c h 9 15 2 a b p q _ (aT H1 bb) (aT H2 bb)).mono ?_;rintro _ w1 ⟨rfl,ah⟩;obtain ⟨aW,ay,zz⟩:=dZ bb ah (b:=w.heap.size);(try simp at ay);(try simp [go_sem] at zz);replace bX:=dF zz;clear zz ah bb
  rw [hk]
  go_wp2_with fail;refine ax w zB fun bb=>?_;refine (dA c a b p q _ (aT H1 bb) Z1.out (aT H2 bb) Z2.out m1 m2).mono ?_;rintro _ w2 ⟨⟨v1,v2,rfl,o1,o2⟩,hbw2⟩;obtain ⟨dE,bu,zz⟩:=dZ bb hbw2 (b:=w.heap.size);(try simp at bu);(first|simp [go_sem,bX] at zz|simp [go_sem] at zz|skip);replace bX:=dF zz;clear zz hbw2 bb
  have d1:=jd o1 (w.heap.size+1+1+1+1)
  have d2:=jd o2 (w.heap.size+1+1+1+1)
  have p1:=av (lo':=w.heap.size) o1 tO
  have p2:=av (lo':=w.heap.size) o2 tO
  obtain ⟨a1,q1,rfl,_⟩:=o1.seg
  obtain ⟨a2,q2,rfl,_⟩:=o2.seg
  obtain ⟨k0,k1,k2,k3⟩:=kZ (a:=w.heap.size) (b:=w2.heap.size)
  go_wp2_with fail;refine ax w zB fun bb=>?_;refine ax w2 zB fun bk=>?_;refine (K.out _ _ _ _ _ (aT H1 bb) Z1.out (aT H2 bb) Z2.out).mono ?_;rintro _ w4 ⟨⟨u1,u2,rfl,u3,u4⟩,dY⟩;have jG:=bT bb dY;have iw:=dY.size;(try simp at iw);have zz:=And.intro (hQ dY (b:=w2.heap.size)) <| And.intro (hQ dY (b:=w.heap.size+1+1+1)) <| And.intro (hQ dY (b:=w.heap.size+1+1)) <| And.intro (hQ dY (b:=w.heap.size+1)) <| hQ dY (b:=w.heap.size);(first|simp [go_sem,bX,k0,k1,k2,k3] at zz|simp [go_sem] at zz|skip);replace bX:=jL zz;clear zz;have ow:=bT bk dY;clear dY bb bk
  try simp at u3 u4
  have d3:=jd u3 (w.heap.size+1+1+1+1)
  have d4:=jd u4 (w.heap.size+1+1+1+1)
  clear d1 d2
  have d1:=d3
  have d2:=d4
  clear d3 d4
  have s1:=av (lo':=w.heap.size) u3 tO
  have s2:=av (lo':=w.heap.size) u4 tO
  have b3:=fun j (hj:u1.ownBlock=some j)=>(u3.lt j hj).1
  have b4:=fun j (hj:u2.ownBlock=some j)=>(u4.lt j hj).1
  have g3:u1.ownBlock≠some w2.heap.size:=fun e=>by have:=b3 _ e;omega
  have g4:u2.ownBlock≠some w2.heap.size:=fun e=>by have:=b4 _ e;omega
  obtain ⟨ua,up,rfl,_⟩:=u3.seg
  obtain ⟨ub,uq,rfl,_⟩:=u4.seg
  go_wp2_with fail;refine ax w zB fun bb=>?_;refine (D.out _ _ _ (by (repeat first|with_reducible exact s1|with_reducible refine zR ?_ _|with_reducible refine vv ?_|((with_reducible first|refine aS ?_ ?_ _|refine gp ?_ ?_);rotate_left;focus first|(refine own_ne u3 ?_;(try dsimp only);omega)|(refine gI u3 ?_;(try dsimp only);omega)|exact g3))) (by (repeat first|with_reducible exact s2|with_reducible refine zR ?_ _|with_reducible refine vv ?_|((with_reducible first|refine aS ?_ ?_ _|refine gp ?_ ?_);rotate_left;focus first|(refine own_ne u4 ?_;(try dsimp only);omega)|(refine gI u4 ?_;(try dsimp only);omega)|exact g4)))).mono ?_;rintro _ w3 ⟨⟨y1,y2,rfl,aV,aX,dL,dI⟩,aO⟩;obtain ⟨ig,df,zz⟩:=dZ bb aO (b:=w.heap.size);(try simp at df);(first|simp [go_sem,bX,k0,k1,k2,k3] at zz|simp [go_sem] at zz|skip);replace bX:=dF zz;clear zz aO bb
  obtain ⟨⟨aI,aJ⟩,dP,dQ⟩:=lL (w:=w) (w.heap.size+1+1+1+1) dL dI d1 d2;obtain ⟨ya,yp,rfl,_⟩:=aV.seg;obtain ⟨yb,yq,rfl,_⟩:=aX.seg
  go_wp2
  refine rE Tryz.results190 rfl (az x.1 (.slice ya x.1.cells.length yp) (.slice yb x.1.words.length yq) tY) rfl (aj x.2.1 tY) ⟨⟨_,_,rfl,?_,?_,dP,dQ⟩,by exact zB⟩
  ·exact zP aV aV aI
  ·exact zP aX aX aJ
theorem GA (c:Ch) (h:Ha) (a b:Option Addr) (p q:Nat) (w:World) (h1:eY w w.heap.size a c.cells) (z1:a=none→p=0) (h2:eQ w w.heap.size b c.words) (z2:b=none→q=0) (hk:bf c h 9 15 2=true) (hp0:h.pos=13) (ht:fo c h.wait 1=true) :
  Calls Tryz.prog 190 #[.agg (af c (.slice a c.cells.length p) (.slice b c.words.length q)),.agg (aa h)] w fun r w'=>bV w w' (bg c h) r:=(uC c h a b p q w h1 z1 h2 z2 hk hp0).1 ht
theorem GD (c:Ch) (h:Ha) (a b:Option Addr) (p q:Nat) (w:World) (h1:eY w w.heap.size a c.cells) (z1:a=none→p=0) (h2:eQ w w.heap.size b c.words) (z2:b=none→q=0) (hk:bf c h 9 15 2=true) (hp0:h.pos=13) (ht:fo c h.wait 1=false) :
  Calls Tryz.prog 190 #[.agg (af c (.slice a c.cells.length p) (.slice b c.words.length q)),.agg (aa h)] w fun r w'=>bV w w' (bg c h) r:=(uC c h a b p q w h1 z1 h2 z2 hk hp0).2 ht
end
section
open Go.RowKit
attribute [local simp] aC
attribute [local go_sem ↓] aB aU aL bB aM bC aG aN au aF
theorem GH (c:Ch) (h:Ha) (a b:Option Addr) (p q:Nat) (w:World) (h1:eY w w.heap.size a c.cells) (z1:a=none→p=0) (h2:eQ w w.heap.size b c.words) (z2:b=none→q=0) (hk:bf c h 9 15 2=true) (hp0:h.pos=10) (hs:(cellAt c h.cell).s=6) :
    Calls Tryz.prog 190 #[.agg (af c (.slice a c.cells.length p) (.slice b c.words.length q)),.agg (aa h)] w fun r w'=>bV w w' (bg c h) r:=by
  obtain ⟨k1,k2,_,_⟩:=bQ hk
  obtain ⟨n1,n2⟩:=dU k1
  have m1:c.cells.length≤1099511627776:=by omega
  have m2:c.words.length≤1099511627776:=by omega
  have H1:=Lib.hid h1
  have H2:=Lib.hid h2
  have Z1:=Lib.hid z1
  have Z2:=Lib.hid z2
  obtain ⟨c1,c2⟩:=fM k2
  obtain ⟨i,hci⟩:∃ i:Nat,h.cell=(i:Int):=⟨h.cell.toNat,by omega⟩
  have hi:i<c.cells.length:=by omega
  have e:bg c h=(c,h,false):=by simp [bg,hk,hp0,wX,hs]
  rw [e]
  obtain ⟨bb,bo,rfl,hb,hcell⟩:∃ b' o,a=some ⟨b',o,none⟩∧b'<w.heap.size∧w.cell? ⟨b',o+i*3,none⟩=some (.int .i64 (cellAt c h.cell).s):=by
    rcases H1.out with h0|⟨b',o',e,h1,h2⟩
    · omega
    · exact ⟨b',o',e,h1,by simpa [ib,cellAt,hci,C3.val] using h2 i 0 hi tO⟩
  generalize (cellAt c h.cell).s=s at *
  subst hs
  clear h1 h2 z1 z2 e k1 k2 n1 n2 c1 c2
  go_enter Tryz.func190,Tryz.ntmps190
  go_wp2_with fail;refine ax w zB fun bb=>?_;refine (d9 c h 9 15 2 _ b p q _ (aT H1 bb) (aT H2 bb)).mono ?_;rintro _ w1 ⟨rfl,ah⟩;obtain ⟨aW,ay,zz⟩:=dZ bb ah (b:=w.heap.size);(try simp at ay);(try simp [go_sem] at zz);replace bX:=dF zz;clear zz ah bb
  rw [hk]
  go_wp2_with fail;refine ax w zB fun bb=>?_;refine (dA c _ b p q _ (aT H1 bb) Z1.out (aT H2 bb) Z2.out m1 m2).mono ?_;rintro _ w2 ⟨⟨v1,v2,rfl,o1,o2⟩,hbw2⟩;obtain ⟨dE,bu,zz⟩:=dZ bb hbw2 (b:=w.heap.size);(try simp at bu);(first|simp [go_sem,bX] at zz|simp [go_sem] at zz|skip);replace bX:=dF zz;clear zz hbw2 bb
  have d1:=jd o1 (w.heap.size+1+1+1+1)
  have d2:=jd o2 (w.heap.size+1+1+1+1)
  have p1:=av (lo':=w.heap.size) o1 tO
  have p2:=av (lo':=w.heap.size) o2 tO
  obtain ⟨a1,q1,rfl,_⟩:=o1.seg
  obtain ⟨a2,q2,rfl,_⟩:=o2.seg
  obtain ⟨k0,k1,k2,k3⟩:=kZ (a:=w.heap.size) (b:=w2.heap.size)
  have hcell2:=(dE.cell (p:=⟨bb,bo+i*3,none⟩) hb).trans hcell
  have hi0:(0:Int)≤(i:Int):=by omega
  have hi1:(i:Int)<(c.cells.length:Int):=by omega
  have hbb:bb<w2.heap.size:=by omega
  have hbn:bb≠w2.heap.size:=by omega
  go_wp2_with fail
  go_region
  all_goals go_wp2
  all_goals (refine rE Tryz.results190 rfl (az c (.slice a1 c.cells.length q1) (.slice a2 c.words.length q2) tY) rfl (aj h tY) ⟨⟨_,_,rfl,?_,?_,fun j hj=>.inr (by have:=d1 j hj;omega),fun j hj=>.inr (by have:=d2 j hj;omega)⟩,by exact zB⟩)
  all_goals first|(show ag _ _ _ c.cells;exact zO p1 o1)|skip
  all_goals first|(show ai _ _ _ c.words;exact zO p2 o2)|skip
theorem uD (c:Ch) (h:Ha) (a b:Option Addr) (p q:Nat) (w:World) (h1:eY w w.heap.size a c.cells) (z1:a=none→p=0) (h2:eQ w w.heap.size b c.words) (z2:b=none→q=0) (hk:bf c h 9 15 2=true) (hp0:h.pos=10) (hs:((cellAt c h.cell).s == 6)=false) :
    (∀ (ht:(gP c h).2=true),Calls Tryz.prog 190 #[.agg (af c (.slice a c.cells.length p) (.slice b c.words.length q)),.agg (aa h)] w fun r w'=>bV w w' (bg c h) r) ∧
    (∀ (ht:(gP c h).2=false),Calls Tryz.prog 190 #[.agg (af c (.slice a c.cells.length p) (.slice b c.words.length q)),.agg (aa h)] w fun r w'=>bV w w' (bg c h) r):=by
  constructor
  case' left =>
    intro ht
    have mA:Hid (0=0):=rfl
  case' right =>
    intro ht
    have mB:Hid (0=0):=rfl
  all_goals
    obtain ⟨k1,k2,_,_⟩:=bQ hk
    obtain ⟨n1,n2⟩:=dU k1
    have m1:c.cells.length≤1099511627776:=by omega
    have m2:c.words.length≤1099511627776:=by omega
    have H1:=Lib.hid h1
    have H2:=Lib.hid h2
    have Z1:=Lib.hid z1
    have Z2:=Lib.hid z2
    obtain ⟨c1,c2⟩:=fM k2
    obtain ⟨i,hci⟩:∃ i:Nat,h.cell=(i:Int):=⟨h.cell.toNat,by omega⟩
    have hi:i<c.cells.length:=by omega
    first
    | (replace mA:=mA;have e:bg c h=done c ((gP c h).1):=by simp at hs;simp [bg,hk,hp0,wX,hs,ht])
    | (replace mB:=mB;have e:bg c h=nothing:=by simp at hs;simp [bg,hk,hp0,wX,hs,ht])
    rw [e]
    obtain ⟨bb,bo,rfl,hb,hcell⟩:∃ b' o,a=some ⟨b',o,none⟩∧b'<w.heap.size∧w.cell? ⟨b',o+i*3,none⟩=some (.int .i64 (cellAt c h.cell).s):=by
      rcases H1.out with h0|⟨b',o',e,h1,h2⟩
      · omega
      · exact ⟨b',o',e,h1,by simpa [ib,cellAt,hci,C3.val] using h2 i 0 hi tO⟩
    generalize (cellAt c h.cell).s=s at *
    have K:=fun W x1=>DK c h (some ⟨bb,bo,none⟩) b p q W x1 c1 tO
    rw [ht] at K
    first
    | (replace mA:=mA
       have D:=Lib.hid fun v1 v2 W=>bE (c) ((gP c h).1) v1 v2 w.heap.size W
       generalize done c ((gP c h).1)=x at *)
    | (replace mB:=mB
       have D:=Lib.hid fun W=>gH W w.heap.size (.slice none 0 0) (.slice none 0 0)
       generalize nothing=x at *)
    generalize (gP c h).1=y at *
    replace K:=Lib.hid K
    clear h1 h2 z1 z2 e k1 k2 n1 n2 c1 c2
    go_enter Tryz.func190,Tryz.ntmps190
    go_wp2_with fail;refine ax w zB fun bb=>?_;refine (d9 c h 9 15 2 _ b p q _ (aT H1 bb) (aT H2 bb)).mono ?_;rintro _ w1 ⟨rfl,ah⟩;obtain ⟨aW,ay,zz⟩:=dZ bb ah (b:=w.heap.size);(try simp at ay);(try simp [go_sem] at zz);replace bX:=dF zz;clear zz ah bb
    rw [hk]
    go_wp2_with fail;refine ax w zB fun bb=>?_;refine (dA c _ b p q _ (aT H1 bb) Z1.out (aT H2 bb) Z2.out m1 m2).mono ?_;rintro _ w2 ⟨⟨v1,v2,rfl,o1,o2⟩,hbw2⟩;obtain ⟨dE,bu,zz⟩:=dZ bb hbw2 (b:=w.heap.size);(try simp at bu);(first|simp [go_sem,bX] at zz|simp [go_sem] at zz|skip);replace bX:=dF zz;clear zz hbw2 bb
    have d1:=jd o1 (w.heap.size+1+1+1+1)
    have d2:=jd o2 (w.heap.size+1+1+1+1)
    have p1:=av (lo':=w.heap.size) o1 tO
    have p2:=av (lo':=w.heap.size) o2 tO
    obtain ⟨a1,q1,rfl,_⟩:=o1.seg
    obtain ⟨a2,q2,rfl,_⟩:=o2.seg
    obtain ⟨k0,k1,k2,k3⟩:=kZ (a:=w.heap.size) (b:=w2.heap.size)
    have hcell2:=(dE.cell (p:=⟨bb,bo+i*3,none⟩) hb).trans hcell
    have hi0:(0:Int)≤(i:Int):=by omega
    have hi1:(i:Int)<(c.cells.length:Int):=by omega
    have hbb:bb<w2.heap.size:=by omega
    have hbn:bb≠w2.heap.size:=by omega
    go_wp2_with fail;refine ax w zB fun bb=>?_;refine ax w2 zB fun bk=>?_;refine (K.out _ (aT H1 bb)).mono ?_;rintro _ w4 ⟨rfl,dY⟩;have jG:=bT bb dY;have iw:=dY.size;(try simp at iw);have zz:=And.intro (hQ dY (b:=w2.heap.size)) <| And.intro (hQ dY (b:=w.heap.size+1+1+1)) <| And.intro (hQ dY (b:=w.heap.size+1+1)) <| And.intro (hQ dY (b:=w.heap.size+1)) <| hQ dY (b:=w.heap.size);(first|simp [go_sem,bX,k0,k1,k2,k3] at zz|simp [go_sem] at zz|skip);replace bX:=jL zz;clear zz;have ow:=bT bk dY;clear dY bb bk
    have s1:=own_below p1 ow
    have s2:=own_below p2 ow
    first
    | (replace mA:=mA;go_wp2_with fail;refine ax w zB fun bb=>?_;refine (D.out _ _ _ (zO s1 o1) (zO s2 o2)).mono ?_;rintro _ w3 ⟨⟨y1,y2,rfl,aV,aX,dL,dI⟩,aO⟩;obtain ⟨ig,df,zz⟩:=dZ bb aO (b:=w.heap.size);(try simp at df);(first|simp [go_sem,bX,k0,k1,k2,k3] at zz|simp [go_sem] at zz|skip);replace bX:=dF zz;clear zz aO bb)
    | (replace mB:=mB
       go_wp2_with fail;refine ax w zB fun bb=>?_;refine (D.out _).mono ?_;rintro _ w3 ⟨⟨y1,y2,rfl,aV,aX,dL,dI⟩,aO⟩;obtain ⟨ig,df,zz⟩:=dZ bb aO (b:=w.heap.size);(try simp at df);(first|simp [go_sem,bX,k0,k1,k2,k3] at zz|simp [go_sem] at zz|skip);replace bX:=dF zz;clear zz aO bb
       have d3:∀ j,(Value.slice none 0 0).ownBlock=some j→w.heap.size+1+1+1+1≤j:=fun j hj=>by cases hj
       clear d1 d2
       have d1:=d3
       have d2:=d3)
    obtain ⟨⟨aI,aJ⟩,dP,dQ⟩:=lL (w:=w) (w.heap.size+1+1+1+1) dL dI d1 d2;obtain ⟨ya,yp,rfl,_⟩:=aV.seg;obtain ⟨yb,yq,rfl,_⟩:=aX.seg
    go_wp2
    refine rE Tryz.results190 rfl (az x.1 (.slice ya x.1.cells.length yp) (.slice yb x.1.words.length yq) tY) rfl (aj x.2.1 tY) ⟨⟨_,_,rfl,?_,?_,dP,dQ⟩,by exact zB⟩
    · exact zP aV aV aI
    · exact zP aX aX aJ
theorem GI (c:Ch) (h:Ha) (a b:Option Addr) (p q:Nat) (w:World) (h1:eY w w.heap.size a c.cells) (z1:a=none→p=0) (h2:eQ w w.heap.size b c.words) (z2:b=none→q=0) (hk:bf c h 9 15 2=true) (hp0:h.pos=10) (hs:((cellAt c h.cell).s == 6)=false) (ht:(gP c h).2=true) :
    Calls Tryz.prog 190 #[.agg (af c (.slice a c.cells.length p) (.slice b c.words.length q)),.agg (aa h)] w fun r w'=>bV w w' (bg c h) r:=(uD c h a b p q w h1 z1 h2 z2 hk hp0 hs).1 ht
theorem GJ (c:Ch) (h:Ha) (a b:Option Addr) (p q:Nat) (w:World) (h1:eY w w.heap.size a c.cells) (z1:a=none→p=0) (h2:eQ w w.heap.size b c.words) (z2:b=none→q=0) (hk:bf c h 9 15 2=true) (hp0:h.pos=10) (hs:((cellAt c h.cell).s == 6)=false) (ht:(gP c h).2=false) :
    Calls Tryz.prog 190 #[.agg (af c (.slice a c.cells.length p) (.slice b c.words.length q)),.agg (aa h)] w fun r w'=>bV w w' (bg c h) r:=(uD c h a b p q w h1 z1 h2 z2 hk hp0 hs).2 ht
end
end Go.Proofs.YtffhjmepfojhnaaGreat
