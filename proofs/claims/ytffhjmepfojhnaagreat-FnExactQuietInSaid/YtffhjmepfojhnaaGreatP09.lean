/-
  The program's touches of sending that write: laying, keeping, waiting, calling, done; on hands and channels that are kept whole; the lists are the call's own.
-/
import Derived.Test.YtffhjmepfojhnaaGreatP08
import Derived.Deep.DeepCutAuto
import Derived.BigRegion
import Derived.Test.YtffhjmepfojhnaaGreatP05
import Derived.Test.YtffhjmepfojhnaaGreatP06
import Derived.Test.YtffhjmepfojhnaaGreatP04
import Derived.Deep.RegionHeld3
set_option maxRecDepth 100000
set_option maxHeartbeats 4000000
set_option linter.unusedSimpArgs false
set_option linter.unusedVariables false
namespace Go.Proofs.YtffhjmepfojhnaaGreat
section
open Go.RowKit
attribute [local simp] aI
attribute [local go_sem ↓] aH aU aM bz aN bB aA aK ax aB
theorem ll {w:World} {lo:Nat} {e:TypeId} {k n p m:Nat} {a:Option Addr} {xs:List Value} (h:w.ownsRow lo e k (.slice a n p) m xs) (ha:a=none):p=0:=by
 rcases h.2 with ⟨h1,_⟩|⟨g,cap,cur,h1,_⟩
 ·simp at h1;exact h1.2.2
 ·subst ha;simp at h1
theorem rP (c:Ch) (v x:Int) (a b:Value):af (dD c v x) a b=af c a b:=by unfold dD;split <;> rfl
theorem iW {c:Ch} (e:aG c=true):c.cells.length=40∧c.words.length≤80:=by
 simp [aG,fo] at e
 omega
theorem vI (c:Ch) (v x:Int) (v1 v2:Value) (lo:Nat) (w:World) (h1:ah w lo v1 c.cells) (h2:ai w lo v2 c.words) (hc:aG c=true) :
  Calls Tryz.prog 68 #[.agg (af c v1 v2),.int .i64 v,.int .i64 x] w fun r w'=>(∃ y1 y2,r=.returned (.tuple #[.agg (af c y1 y2),.bool (eU c v x)])∧ah w' w.heap.size y1 c.cells∧ai w' w.heap.size y2 (dD c v x).words)∧Below w.heap.size w w':=by
 obtain ⟨n1,n2⟩:=iW hc
 obtain ⟨a,p,rfl,g1⟩:=h1.seg
 obtain ⟨b,q,rfl,g2⟩:=h2.seg
 refine (Hy c v x a b p q w g1 (ll h1) g2 (ll h2) tO tO).mono ?_
 rintro _ w' ⟨⟨y1,y2,rfl,k1,k2⟩,hb⟩
 obtain ⟨e1,e2⟩:=zm (v:=v) (x:=x) hc
 rw [e1] at k1 k2
 rw [(kP c v x).1] at k1
 refine ⟨⟨y1,y2,?_,k1,k2⟩,hb⟩
 rw [e1,e2]
 show Ending.returned (.tuple #[.agg (af (dD c v x) y1 y2),_])=_
 rw [rP]
theorem EM (c:Ch) (v1 v2:Value) (lo:Nat) (w:World) (h1:ah w lo v1 c.cells) (h2:ai w lo v2 c.words) (hc:aG c=true) (hf:80≤c.words.length) :
  Calls Tryz.prog 257 #[.agg (af c v1 v2)] w fun r w'=>(∃ y1 y2,r=.returned (.tuple #[.agg (af c y1 y2),.int .i64 0])∧ah w' w.heap.size y1 c.cells∧ai w' w.heap.size y2 c.words)∧Below w.heap.size w w':=by
 obtain ⟨n1,n2⟩:=iW hc
 obtain ⟨a,p,rfl,g1⟩:=h1.seg
 obtain ⟨b,q,rfl,g2⟩:=h2.seg
 refine (rO c a b p q w g1 (ll h1) g2 (ll h2) tO tO).mono ?_
 rintro _ w' ⟨⟨y1,y2,rfl,k1,k2⟩,hb⟩
 obtain ⟨e1,e2⟩:=rJ hc hf
 rw [e1] at k1 k2
 refine ⟨⟨y1,y2,?_,k1,k2⟩,hb⟩
 rw [e1,e2]
 rfl
theorem EN (c:Ch) (v1 v2:Value) (lo:Nat) (w:World) (h1:ah w lo v1 c.cells) (h2:ai w lo v2 c.words) (hc:aG c=true) (hf:¬ 80≤c.words.length) :
  Calls Tryz.prog 257 #[.agg (af c v1 v2)] w fun r w'=>(∃ y1 y2,r=.returned (.tuple #[.agg (af c y1 y2),.int .i64 ((c.words.length:Int)+1)])∧ah w' w.heap.size y1 c.cells∧ai w' w.heap.size y2 (c.words ++ [0]))∧Below w.heap.size w w':=by
 obtain ⟨n1,n2⟩:=iW hc
 obtain ⟨a,p,rfl,g1⟩:=h1.seg
 obtain ⟨b,q,rfl,g2⟩:=h2.seg
 refine (rO c a b p q w g1 (ll h1) g2 (ll h2) tO tO).mono ?_
 rintro _ w' ⟨⟨y1,y2,rfl,k1,k2⟩,hb⟩
 obtain ⟨e1,e2⟩:=rM hc hf
 rw [e1] at k1 k2
 refine ⟨⟨y1,y2,?_,k1,k2⟩,hb⟩
 rw [e1,e2]
 rfl
def StepB (w w':World) (lo:Nat) (v1 v2:Value) (x:St) (r:Ending):Prop:=qY w w' lo v1 v2 x r∧Below w.heap.size w w'
theorem EO (c:Ch) (y z:Ha) (v1 v2:Value) (lo:Nat) (w:World) (h1:ah w lo v1 c.cells) (h2:ai w lo v2 c.words) (hc:aG c=true) (hlo:lo≤w.heap.size) (ht:eU c y.wait 1=true) :
  Calls Tryz.prog 253 #[.agg (af c v1 v2),.agg (aa y),.agg (aa z)] w fun r w'=>StepB w w' lo v1 v2 ((dD c y.wait 1,y,true)) r:=by
 obtain ⟨a1,q1,a2,q2,rfl,rfl,O1,O2,b1,b2⟩:=qH h1 h2
 clear h1 h2
 have o1:=O1.out
 have o2:=O2.out
 go_enter Tryz.func253,Tryz.ntmps253
 go_wp2_with fail;refine au w zB fun bb=>?_;refine (vI c y.wait 1 _ _ lo _ (zO o1 o1) (zO o2 o2) hc).mono ?_;rintro _ w1 ⟨⟨y1,y2,rfl,aO,aQ⟩,ag⟩;obtain ⟨aV,ak,zz⟩:=vX bb ag (b:=w.heap.size);(try simp at ak);(try simp [go_sem] at zz);replace bX:=jb zz;clear zz;have eD:=aV;clear ag bb
 rw [ht]
 try simp at aO aQ
 have dH:dY w (.slice a1 c.cells.length q1) y1:=fun j hj=>.inr (by have:=(aO.lt j hj).1;(try simp at this);omega)
 have dF:dY w (.slice a2 c.words.length q2) y2:=fun j hj=>.inr (by have:=(aQ.lt j hj).1;(try simp at this);omega)
 obtain ⟨ya,yp,rfl,_⟩:=aO.seg
 obtain ⟨yb,yq,rfl,_⟩:=aQ.seg
 have r1:=ay (lo':=lo) aO tO
 have r2:=ay (lo':=lo) aQ tO
 obtain ⟨k0,k1,k2,k3⟩:=jW (a:=w.heap.size) (b:=w1.heap.size)
 have k4:w.heap.size+1+1+1+1<w1.heap.size:=by omega
 go_wp2_with fail
 go_region
 go_wp2
 refine rE Tryz.results253 rfl (az c (.slice ya c.cells.length yp) (.slice yb (dD c y.wait 1).words.length yq) tZ) rfl (aj y tZ) ⟨⟨.slice ya c.cells.length yp,.slice yb (dD c y.wait 1).words.length yq,by (rw [rP];rfl),?_,?_,dH,dF⟩,by exact zB⟩
 ·show ah _ lo _ (dD c y.wait 1).cells
  rw [(kP c y.wait 1).1]
  exact zO r1 aO
 ·exact zO r2 aQ
theorem H5 (c:Ch) (y z:Ha) (v1 v2:Value) (lo:Nat) (w:World) (h1:ah w lo v1 c.cells) (h2:ai w lo v2 c.words) (hc:aG c=true) (hlo:lo≤w.heap.size) (ht:eU c y.wait 1=false) :
  Calls Tryz.prog 253 #[.agg (af c v1 v2),.agg (aa y),.agg (aa z)] w fun r w'=>StepB w w' lo v1 v2 ((c,z,true)) r:=by
 obtain ⟨a1,q1,a2,q2,rfl,rfl,O1,O2,b1,b2⟩:=qH h1 h2
 clear h1 h2
 have o1:=O1.out
 have o2:=O2.out
 go_enter Tryz.func253,Tryz.ntmps253
 go_wp2_with fail;refine au w zB fun bb=>?_;refine (vI c y.wait 1 _ _ lo _ (zO o1 o1) (zO o2 o2) hc).mono ?_;rintro _ w1 ⟨⟨y1,y2,rfl,aO,aQ⟩,ag⟩;obtain ⟨aV,ak,zz⟩:=vX bb ag (b:=w.heap.size);(try simp at ak);(try simp [go_sem] at zz);replace bX:=jb zz;clear zz;have eD:=aV;clear ag bb
 rw [ht]
 obtain ⟨ya,yp,rfl,_⟩:=aO.seg
 obtain ⟨yb,yq,rfl,_⟩:=aQ.seg
 have p1:=own_below o1 eD
 have p2:=own_below o2 eD
 obtain ⟨k0,k1,k2,k3⟩:=jW (a:=w.heap.size) (b:=w1.heap.size)
 have k4:w.heap.size+1+1+1+1<w1.heap.size:=by omega
 go_wp2_with fail
 go_region
 go_wp2
 refine rE Tryz.results253 rfl (az c (.slice a1 c.cells.length q1) (.slice a2 c.words.length q2) tZ) rfl (aj z (by simp [go_sem, *] <;> first|rfl|simp [bL,anew,hci])) ⟨⟨_,_,rfl,?_,?_,av _ _,av _ _⟩,by exact zB⟩
 ·exact zO p1 o1
 ·exact zO p2 o2
def BU (c:Ch) (y z:Ha):St:=if eU c y.wait 1 then (dD c y.wait 1,y,true) else (c,z,true)
theorem vJ (c:Ch) (y z:Ha) (v1 v2:Value) (lo:Nat) (w:World) (h1:ah w lo v1 c.cells) (h2:ai w lo v2 c.words) (hc:aG c=true) (hlo:lo≤w.heap.size) :
  Calls Tryz.prog 253 #[.agg (af c v1 v2),.agg (aa y),.agg (aa z)] w fun r w'=>StepB w w' lo v1 v2 (BU c y z) r:=by
 cases ht:eU c y.wait 1 with
 | true =>
  rw [show BU c y z=(dD c y.wait 1,y,true) by simp [BU,ht]]
  exact EO c y z v1 v2 lo w h1 h2 hc hlo ht
 | false =>
  rw [show BU c y z=(c,z,true) by simp [BU,ht]]
  exact H5 c y z v1 v2 lo w h1 h2 hc hlo ht
end
section
open Go.RowKit
theorem BV (s e t f n v:Int) (w:World):Calls Tryz.prog 256 #[.agg #[.int .i64 s,.int .i64 e,.int .i64 t],.int .i64 f,.int .i64 n,.int .i64 v] w fun r w'=>pU s e t f n v r∧Below w.heap.size w w':=by
 by_cases OB:s=f
 ·subst OB
  go_enter Tryz.func256,Tryz.ntmps256
  go_wp2_with (go_at_call 181;refine (oh _ _ _ _).mono ?_;rintro _ w1 ⟨rfl,ag⟩;have hBw1:Below w.heap.size w w1:=bT zB ag;have ak:=ag.size;(try (simp at ak));have:=fun o=>ag.cell (p:=⟨w.heap.size,o,none⟩) (by ((try simp);(try omega)));have:=fun o=>ag.frozen (p:=⟨w.heap.size,o,none⟩) (by ((try simp);(try omega)));have:=fun o=>ag.cell (p:=⟨w.heap.size+1,o,none⟩) (by ((try simp);(try omega)));have:=fun o=>ag.frozen (p:=⟨w.heap.size+1,o,none⟩) (by ((try simp);(try omega)));have:=fun o=>ag.cell (p:=⟨w.heap.size+1+1,o,none⟩) (by ((try simp);(try omega)));have:=fun o=>ag.frozen (p:=⟨w.heap.size+1+1,o,none⟩) (by ((try simp);(try omega)));have:w.heap.size<w1.heap.size:=tO;have:w.heap.size≤w1.heap.size:=tO;have:w.heap.size≤w1.heap.size+1:=tO;have:w.heap.size+1<w1.heap.size:=tO;have:w.heap.size+1≤w1.heap.size:=tO;have:w.heap.size+1≤w1.heap.size+1:=tO;have:w.heap.size+1+1<w1.heap.size:=tO;have:w.heap.size+1+1≤w1.heap.size:=tO;have:w.heap.size+1+1≤w1.heap.size+1:=tO)
  all_goals first
   | (refine bodyPost_ret (v:=.tuple #[.agg #[.int .i64 n,.int .i64 e,.int .i64 v],.bool true]) (by simp [results,Tryz.results256,go_sem, *]) rfl ⟨uW (Gn ‹_› ‹_›),by exact zB⟩)
   | (refine bodyPost_ret (v:=.tuple #[.agg #[.int .i64 s,.int .i64 e,.int .i64 t],.bool false]) (by simp [results,Tryz.results256,go_sem, *]) rfl ⟨oF (by first|exact vV ‹_›|exact Gm ‹_›),by exact zB⟩)
 ·go_enter Tryz.func256,Tryz.ntmps256
  go_wp2_with (go_at_call 181;refine (oh _ _ _ _).mono ?_;rintro _ w1 ⟨rfl,ag⟩;have hBw1:Below w.heap.size w w1:=bT zB ag;have ak:=ag.size;(try (simp at ak));have:=fun o=>ag.cell (p:=⟨w.heap.size,o,none⟩) (by ((try simp);(try omega)));have:=fun o=>ag.frozen (p:=⟨w.heap.size,o,none⟩) (by ((try simp);(try omega)));have:=fun o=>ag.cell (p:=⟨w.heap.size+1,o,none⟩) (by ((try simp);(try omega)));have:=fun o=>ag.frozen (p:=⟨w.heap.size+1,o,none⟩) (by ((try simp);(try omega)));have:=fun o=>ag.cell (p:=⟨w.heap.size+1+1,o,none⟩) (by ((try simp);(try omega)));have:=fun o=>ag.frozen (p:=⟨w.heap.size+1+1,o,none⟩) (by ((try simp);(try omega)));have:w.heap.size<w1.heap.size:=tO;have:w.heap.size≤w1.heap.size:=tO;have:w.heap.size≤w1.heap.size+1:=tO;have:w.heap.size+1<w1.heap.size:=tO;have:w.heap.size+1≤w1.heap.size:=tO;have:w.heap.size+1≤w1.heap.size+1:=tO;have:w.heap.size+1+1<w1.heap.size:=tO;have:w.heap.size+1+1≤w1.heap.size:=tO;have:w.heap.size+1+1≤w1.heap.size+1:=tO)
  all_goals (refine bodyPost_ret (v:=.tuple #[.agg #[.int .i64 s,.int .i64 e,.int .i64 t],.bool false]) (by simp [results,Tryz.results256,go_sem, *]) rfl ⟨oF (by first|exact Gl ‹_›|exact vV ‹_›),by exact zB⟩)
end
section
open Go.RowKit
theorem jM (c:Ch) (i:Nat) (f t v:Int) (v1 v2:Value) (lo:Nat) (w:World) (h1:ah w lo v1 c.cells) (h2:ai w lo v2 c.words) (hi:i<c.cells.length) :
  Calls Tryz.prog 254 #[.agg (af c v1 v2),.int .i64 i,.int .i64 f,.int .i64 t,.int .i64 v] w fun r w'=>r=.returned (.bool (bn c i f t v))∧ah w' lo v1 (bf c i f t v).cells∧ai w' lo v2 c.words∧w.grownBy w' v1.ownBlock:=by
 have O2:=Lib.hid h2
 have hne:=h1.ne h2
 obtain ⟨b,q,rfl,_⟩:=h2.seg
 obtain ⟨g,cap,rfl,hlo,hlt,hcell,hfr⟩:=h1.open1 hi
 have O1:=Lib.hid h1
 have c0:=hcell 0 tO
 have c1:=hcell 1 tO
 have c2:=hcell 2 tO
 simp only [C3.val,Nat.add_zero] at c0 c1 c2
 have hi0:(0:Int)≤(i:Int):=by omega
 have hi1:(i:Int)<(c.cells.length:Int):=by omega
 have hgw:w.heap.size≠g:=by omega
 have q8:w.heap.size+1≠g:=by omega
 have Nh:g≠w.heap.size:=by omega
 have fw:g≠w.heap.size+1:=by omega
 rw [qd,vB]
 unfold vW nH
 generalize hcg:c.cells.getD i ⟨0,0,0⟩=x at c0 c1 c2
 clear h1 h2 hcell hcg
 unfold af
 go_enter Tryz.func254,Tryz.ntmps254
 go_wp2_with fail;refine au w zB fun bb=>?_;refine (BV _ _ _ f t v _).mono ?_;rintro _ w1 ⟨hr,ag⟩;have aV:=bT bb ag;have ak:=ag.size;(try simp at ak);have zz:=DV ag (b:=w.heap.size);(try simp [go_sem] at zz);replace bX:=zz;clear zz;have eD:=aV;clear ag bb
 unfold pU at hr
 subst hr
 have o1:=O1.out
 have o2:=O2.out
 have p1:=own_below o1 aV
 have p2:=own_below o2 aV
 have d1:=fun o=>(aV.cell (p:=⟨g,o,none⟩) hlt)
 have d2:=fun o=>(aV.frozen (p:=⟨g,o,none⟩) hlt)
 have mD:g<w1.heap.size:=by omega
 have OC:w1.heap.size≠g:=by omega
 have OD:g≠w1.heap.size:=by omega
 have P1:=ah.set p1 hi (nH x f t v)
 simp only [nH] at P1
 go_wp2
 go_ret
 refine ⟨rfl,?_,?_,?_⟩
 ·exact zO P1 o1
 ·(repeat first|with_reducible exact p2|with_reducible refine xS ?_ _|with_reducible refine uZ ?_|((with_reducible first|refine bP ?_ ?_ _|refine fI ?_ ?_);rotate_left;focus first|(refine own_ne o2 ?_;(try dsimp only);omega)|(refine fU o2 ?_;(try dsimp only);omega)|exact fun h=>ah.ne o1 o2 _ rfl h))
 ·have hg1:Gr g w w1:=qz aV
  show Gr g w _
  exact zG
attribute [local simp] aI
attribute [local go_sem ↓] aH aU aM bz aN bB aA aK ax aB
theorem iX (h:Ha) (s e t:Int) (w:World):Calls Tryz.prog 249 #[.agg (aa h),.agg #[.int .i64 s,.int .i64 e,.int .i64 t]] w fun r w'=>r=.returned (.agg (aa { h with seen:=s,wait:=t }))∧Below w.heap.size w w':=by
 go_enter Tryz.func249,Tryz.ntmps249
 go_wp2_with fail
 go_region
 all_goals go_wp2
 all_goals exact bodyPost_ret (gH Tryz.results249 rfl (aj { h with seen:=s,wait:=t } tZ)) rfl ⟨rfl,by exact zB⟩
end
section
open Go.RowKit
attribute [local simp] aI
attribute [local go_sem ↓] aH aU aM bz aN bB aA aK ax aB
theorem kQ (h:Ha) (t:Int) (w:World):Calls Tryz.prog 264 #[.agg (aa h),.int .i64 t] w fun r w'=>r=.returned (.agg (aa (dI h t)))∧Below w.heap.size w w':=by
 go_enter Tryz.func264,Tryz.ntmps264
 go_wp2_with fail;refine au w zB fun bb=>?_;refine (dm { h with nxt:=t } 16 _).mono ?_;rintro _ w1 ⟨rfl,ag⟩;obtain ⟨aV,ak,zz⟩:=Bj bb ag (b:=w.heap.size);(try simp at ak);(try simp [go_sem] at zz);replace bX:=xU zz;clear zz ag bb
 go_wp2
 refine bodyPost_ret (gH Tryz.results264 rfl (aj (dI h t) tZ)) rfl ⟨rfl,by exact zB⟩
theorem wL (c:Ch) (h:Ha) (v1 v2:Value) (lo:Nat) (w:World) (h1:ah w lo v1 c.cells) (h2:ai w lo v2 c.words) (hs:c.got=40) :
  bY 261 c h v1 v2 lo w ((c,aS 4 0,true)):=by
 obtain ⟨a1,q1,a2,q2,rfl,rfl,O1,O2,b1,b2⟩:=qH h1 h2
 clear h1 h2
 have o1:=O1.out
 have o2:=O2.out
 go_enter Tryz.func261,Tryz.ntmps261
 go_wp2_with fail
 go_region_held3 (fun w'=>hp w' w.heap.size=some (.cells (af c (.slice a1 c.cells.length q1) (.slice a2 c.words.length q2)) 31)∧hp w' (w.heap.size+1)=some (.cells (aa h) 49))
  (first|(simp [*,go_sem]))
  (first|((go_at_call 48;refine au w zB fun bb=>?_;refine (gY _ _ _).mono ?_;rintro _ w1 ⟨rfl,ag⟩;obtain ⟨aV,ak,zz⟩:=dV bb ag (b:=w.heap.size);(try simp at ak);(try simp [go_sem] at zz);replace bX:=dx zz;clear zz;have eD:=aV;clear ag bb);have p1:=own_below o1 eD;have p2:=own_below o2 eD))
 go_wp2
 refine rE Tryz.results261 rfl (az c (.slice a1 c.cells.length q1) (.slice a2 c.words.length q2) tZ) rfl (aj (aS 4 0) tZ) ⟨⟨_,_,rfl,?_,?_,av _ _,av _ _⟩,dA zB⟩
 ·exact zO p1 o1
 ·exact zO p2 o2
theorem wM (c:Ch) (h:Ha) (v1 v2:Value) (lo:Nat) (w:World) (h1:ah w lo v1 c.cells) (h2:ai w lo v2 c.words) (hs:¬ c.got=40) (EC:0≤c.got∧c.got≤40) :
  bY 261 c h v1 v2 lo w (({ c with got:=c.got+1 },{ h with cell:=c.got,pos:=10 },true)):=by
 obtain ⟨a1,q1,a2,q2,rfl,rfl,O1,O2,b1,b2⟩:=qH h1 h2
 clear h1 h2
 have o1:=O1.out
 have o2:=O2.out
 go_enter Tryz.func261,Tryz.ntmps261
 go_wp2_with fail
 go_region_held3 (fun w'=>hp w' w.heap.size=some (.cells (af { c with got:=c.got+1 } (.slice a1 c.cells.length q1) (.slice a2 c.words.length q2)) 31)∧hp w' (w.heap.size+1)=some (.cells (aa { h with cell:=c.got }) 49))
  (first|(simp [*,go_sem]))
  (first|((go_at_call 247;refine au w zB fun bb=>?_;refine (dm _ _ _).mono ?_;rintro _ w1 ⟨rfl,ag⟩;obtain ⟨aV,ak,zz⟩:=dV bb ag (b:=w.heap.size);(try simp at ak);(try simp [go_sem] at zz);replace bX:=dx zz;clear zz;have eD:=aV;clear ag bb);have p1:=own_below o1 eD;have p2:=own_below o2 eD))
 go_wp2
 refine rE Tryz.results261 rfl (az { c with got:=c.got+1 } (.slice a1 c.cells.length q1) (.slice a2 c.words.length q2) tZ) rfl (aj { h with cell:=c.got,pos:=10 } tZ) ⟨⟨_,_,rfl,?_,?_,av _ _,av _ _⟩,dA zB⟩
 ·exact zO p1 o1
 ·exact zO p2 o2
theorem nL (c:Ch) (st wt:Int) (y z:Ha) (v1 v2:Value) (lo:Nat) (w:World) (h1:ah w lo v1 c.cells) (h2:ai w lo v2 c.words) (hc0:0≤y.cell) (hc1:y.cell<c.cells.length) :
  (∀ (ht:bn c y.cell y.seen st wt=true),Calls Tryz.prog 265 #[.agg (af c v1 v2),.int .i64 st,.int .i64 wt,.agg (aa y),.agg (aa z)] w fun r w'=>cK w w' lo v1 v2 (bf c y.cell y.seen st wt,y,true) r) ∧
  (∀ (ht:bn c y.cell y.seen st wt=false),Calls Tryz.prog 265 #[.agg (af c v1 v2),.int .i64 st,.int .i64 wt,.agg (aa y),.agg (aa z)] w fun r w'=>cK w w' lo v1 v2 (bf c y.cell y.seen st wt,z,true) r):=by
 constructor
 case' left =>
  intro ht
  have mA:Hid (0=0):=rfl
 case' right =>
  intro ht
  have mB:Hid (0=0):=rfl
 all_goals
  obtain ⟨i,hci⟩:∃ i:Nat,y.cell=(i:Int):=⟨y.cell.toNat,by omega⟩
  have hi:i<c.cells.length:=by omega
  have T:=Lib.hid fun W a b=>jM c i y.seen st wt v1 v2 lo W a b hi
  have ht2:=ht
  rw [hci] at ht2
  rw [ht2] at T
  have e0:bf c y.cell y.seen st wt=bf c i y.seen st wt:=by rw [hci]
  rw [e0]
  have b1:=jc h1
  have b2:=jc h2
  have m1:=lD b1
  have m2:=lD b2
  have m10:=m1 (w.heap.size) tO
  have m20:=m2 (w.heap.size) tO
  have m11:=m1 (w.heap.size+1) tO
  have m21:=m2 (w.heap.size+1) tO
  have m12:=m1 (w.heap.size+1+1) tO
  have m22:=m2 (w.heap.size+1+1) tO
  have m13:=m1 (w.heap.size+1+1+1) tO
  have m23:=m2 (w.heap.size+1+1+1) tO
  have m14:=m1 (w.heap.size+1+1+1+1) tO
  have m24:=m2 (w.heap.size+1+1+1+1) tO
  have o1:=h1
  have o2:=h2
  obtain ⟨a1,q1,e1,_⟩:=h1.seg
  obtain ⟨a2,q2,e2,_⟩:=h2.seg
  subst e1 e2
  clear h1 h2 ht ht2 e0 hc0 hc1
  go_enter Tryz.func265,Tryz.ntmps265
  go_wp2_with fail;refine (T.out _ (zO o1 o1) (zO o2 o2)).mono ?_;rintro _ w1 ⟨rfl,p1,p2,hgw1⟩;have ak:=hgw1.size;(try (simp at ak));have zz:=Px hgw1 (b:=w.heap.size);(try simp [go_sem] at zz);replace bX:=jb zz;clear zz;have jJ:=Gg (w:=w) zB hgw1;clear hgw1
  have tL:gV (Value.slice a1 c.cells.length q1).ownBlock (Value.slice a2 c.words.length q2).ownBlock w w1:=kS jJ
  obtain ⟨k0,k1,k2,k3⟩:=jW (a:=w.heap.size) (b:=w1.heap.size)
  have k4:w.heap.size+1+1+1+1<w1.heap.size:=by omega
  have r1:ah w1 lo (.slice a1 c.cells.length q1) (bf c i y.seen st wt).cells:=p1
  have r2:ai w1 lo (.slice a2 c.words.length q2) (bf c i y.seen st wt).words:=p2
  clear p1 p2
  go_wp2_with fail
  go_region
  go_wp2
  first
  | (replace mA:=mA;refine rE Tryz.results265 rfl (az c (.slice a1 c.cells.length q1) (.slice a2 c.words.length q2) tZ) rfl (aj y tZ) ⟨⟨_,_,rfl,?_,?_,av _ _,av _ _⟩,by exact zN⟩)
  | (replace mB:=mB;refine rE Tryz.results265 rfl (az c (.slice a1 c.cells.length q1) (.slice a2 c.words.length q2) tZ) rfl (aj z tZ) ⟨⟨_,_,rfl,?_,?_,av _ _,av _ _⟩,by exact zN⟩)
  ·exact zO r1 o1
  ·exact zO r2 o2
theorem wN (c:Ch) (st wt:Int) (y z:Ha) (v1 v2:Value) (lo:Nat) (w:World) (h1:ah w lo v1 c.cells) (h2:ai w lo v2 c.words) (hc0:0≤y.cell) (hc1:y.cell<c.cells.length) (ht:bn c y.cell y.seen st wt=true) :
  Calls Tryz.prog 265 #[.agg (af c v1 v2),.int .i64 st,.int .i64 wt,.agg (aa y),.agg (aa z)] w fun r w'=>cK w w' lo v1 v2 (bf c y.cell y.seen st wt,y,true) r:=(nL c st wt y z v1 v2 lo w h1 h2 hc0 hc1).1 ht
theorem wO (c:Ch) (st wt:Int) (y z:Ha) (v1 v2:Value) (lo:Nat) (w:World) (h1:ah w lo v1 c.cells) (h2:ai w lo v2 c.words) (hc0:0≤y.cell) (hc1:y.cell<c.cells.length) (ht:bn c y.cell y.seen st wt=false) :
  Calls Tryz.prog 265 #[.agg (af c v1 v2),.int .i64 st,.int .i64 wt,.agg (aa y),.agg (aa z)] w fun r w'=>cK w w' lo v1 v2 (bf c y.cell y.seen st wt,z,true) r:=(nL c st wt y z v1 v2 lo w h1 h2 hc0 hc1).2 ht
theorem jv {c:Ch} {i f t v:Int} (h:bn c i f t v=false):bf c i f t v=c:=by
 have e:nH (cellAt c i) f t v=cellAt c i:=by
  have h2:jF (cellAt c i).s (cellAt c i).e (cellAt c i).t f t v=false:=h
  simp [nH,xZ,yc,h2]
 unfold bf setAt
 rw [e]
 unfold cellAt
 have:c.cells.set i.toNat (c.cells.getD i.toNat ⟨0,0,0⟩)=c.cells:=by
  apply List.ext_getElem?
  intro n
  rw [List.getElem?_set]
  by_cases hn:i.toNat=n
  ·subst hn
   by_cases hl:i.toNat<c.cells.length
   ·simp [hl]
   ·simp [hl,Nat.le_of_not_lt hl]
  ·simp [hn]
 rw [this]
theorem lT (c:Ch) (st wt:Int) (y z:Ha) (v1 v2:Value) (lo:Nat) (w:World) (h1:ah w lo v1 c.cells) (h2:ai w lo v2 c.words) (hc0:0≤y.cell) (hc1:y.cell<c.cells.length) :
  Calls Tryz.prog 265 #[.agg (af c v1 v2),.int .i64 st,.int .i64 wt,.agg (aa y),.agg (aa z)] w fun r w'=>cK w w' lo v1 v2 (qA c st wt y z) r:=by
 cases ht:bn c y.cell y.seen st wt with
 | true =>
  rw [show qA c st wt y z=(bf c y.cell y.seen st wt,y,true) by simp [qA,ht]]
  exact wN c st wt y z v1 v2 lo w h1 h2 hc0 hc1 ht
 | false =>
  have:=wO c st wt y z v1 v2 lo w h1 h2 hc0 hc1 ht
  rw [jv ht] at this
  rw [show qA c st wt y z=(c,z,true) by simp [qA,ht]]
  exact this
end
section
open Go.RowKit
attribute [local simp] aI
attribute [local go_sem ↓] aH aU aM bz aN bB aA aK ax aB
theorem qj (c:Ch) (h:Ha) (v1 v2:Value) (lo:Nat) (w:World) (h1:ah w lo v1 c.cells) (h2:ai w lo v2 c.words) (hc0:0≤h.cell) (hc1:h.cell<c.cells.length) :
    (∀ (hn:(cellAt c h.cell).s=0),Calls Tryz.prog 262 #[.agg (af c v1 v2),.agg (aa h)] w fun r w'=>cK w w' lo v1 v2 ((c,{ dw h (cellAt c h.cell) with pos:=11 },true)) r) ∧
    (∀ (hn:(cellAt c h.cell).s=1),Calls Tryz.prog 262 #[.agg (af c v1 v2),.agg (aa h)] w fun r w'=>cK w w' lo v1 v2 ((c,{ dw h (cellAt c h.cell) with pos:=11 },true)) r):=by
  constructor
  case' left =>
    intro hn
    have mA:Hid (0=0):=rfl
  case' right =>
    intro hn
    have mB:Hid (0=0):=rfl
  all_goals
    obtain ⟨i,hci⟩:∃ i:Nat,h.cell=(i:Int):=⟨h.cell.toNat,by omega⟩
    have hi:i<c.cells.length:=by omega
    have hi0:(0:Int)≤(i:Int):=by omega
    have hi1:(i:Int)<(c.cells.length:Int):=by omega
    have hne:=h1.ne h2
    obtain ⟨a2,q2,rfl,_⟩:=h2.seg
    obtain ⟨g,q1,rfl,hlo1,hlt,hcell,hfr⟩:=h1.open1 hi
    have O1:=Lib.hid h1
    have O2:=Lib.hid h2
    have jN:g<w.heap.size+1:=by omega
    have jO:g<w.heap.size+1+1:=by omega
    have jP:g<w.heap.size+1+1+1:=by omega
    have xV:g≠w.heap.size:=by omega
    have xW:g≠w.heap.size+1:=by omega
    have xX:g≠w.heap.size+1+1:=by omega
    have xY:g≠w.heap.size+1+1+1:=by omega
    have zo:w.heap.size≠g:=by omega
    have zq:w.heap.size+1≠g:=by omega
    have zt:w.heap.size+1+1≠g:=by omega
    have zu:w.heap.size+1+1+1≠g:=by omega
    have hx:Hid (cellAt c h.cell=c.cells.getD i ⟨0,0,0⟩):=by simp [cellAt,Hid,hci]
    have c0:=hcell 0 tO
    have c1:=hcell 1 tO
    have c2:=hcell 2 tO
    simp only [C3.val,Nat.add_zero] at c0 c1 c2
    have ex:=hx.out
    rw [ex] at hn ⊢
    generalize c.cells.getD i ⟨0,0,0⟩=x at *
    obtain ⟨s,e,t⟩:=x
    simp only at hn c0 c1 c2
    subst hn
    clear hx ex hcell h1 h2
    have o1:=O1.out
    have o2:=O2.out
    go_enter Tryz.func262,Tryz.ntmps262
    first
    | (replace mA:=mA;go_wp2_with fail;refine au w zB fun bb=>?_;refine (iX h 0 e t _).mono ?_;rintro _ w1 ⟨rfl,ag⟩;obtain ⟨aV,ak,zz⟩:=vX bb ag (b:=w.heap.size);(try simp at ak);(try simp [go_sem] at zz);replace bX:=jb zz;clear zz;have eD:=aV;clear ag bb)
    | (replace mB:=mB;go_wp2_with fail;refine au w zB fun bb=>?_;refine (iX h 1 e t _).mono ?_;rintro _ w1 ⟨rfl,ag⟩;obtain ⟨aV,ak,zz⟩:=vX bb ag (b:=w.heap.size);(try simp at ak);(first|simp [go_sem,bX] at zz|simp [go_sem] at zz|skip);replace bX:=jb zz;clear zz;have eD:=aV;clear ag bb)
    have p1:=own_below o1 eD
    have p2:=own_below o2 eD
    obtain ⟨k0,k1,k2,k3⟩:=jW (a:=w.heap.size) (b:=w1.heap.size)
    have k4:w.heap.size+1+1+1+1<w1.heap.size:=by omega
    have j0:w.heap.size<w1.heap.size+1:=by omega
    have j1:w.heap.size+1<w1.heap.size+1:=by omega
    have j2:w.heap.size+1+1<w1.heap.size+1:=by omega
    have j3:w.heap.size+1+1+1<w1.heap.size+1:=by omega
    have j4:w.heap.size+1+1+1+1<w1.heap.size+1:=by omega
    go_wp2_with fail
    first
    | (replace mA:=mA
       go_region_held3 (fun w'=>hp w' w.heap.size=some (.cells (af c (.slice (some ⟨g,0,none⟩) c.cells.length q1) (.slice a2 c.words.length q2)) 31)∧hp w' w1.heap.size=some (.cells (aa { h with cell:=(i:Int),seen:=0,wait:=t,out:=e }) 49))
         (first|(simp [*,go_sem]))
         (first|((go_at_call 247;refine au w zB fun bb=>?_;refine au w1 zB fun bk=>?_;refine (dm _ _ _).mono ?_;rintro _ w2 ⟨rfl,hbw2⟩;have dh:=bT bb hbw2;have aR:=hbw2.size;(try simp at aR);have zz:=And.intro (hQ hbw2 (b:=w1.heap.size)) <| And.intro (hQ hbw2 (b:=w.heap.size+1+1+1)) <| And.intro (hQ hbw2 (b:=w.heap.size+1+1)) <| And.intro (hQ hbw2 (b:=w.heap.size+1)) <| hQ hbw2 (b:=w.heap.size);(first|simp [go_sem,bX,k0,k1,k2,k3,k4] at zz|simp [go_sem] at zz|skip);replace bX:=jb zz;clear zz;have dW:=bT bk hbw2;clear hbw2 bb bk);have r1:=own_below p1 dW;have r2:=own_below p2 dW)))
    | (replace mB:=mB
       go_region_held3 (fun w'=>hp w' w.heap.size=some (.cells (af c (.slice (some ⟨g,0,none⟩) c.cells.length q1) (.slice a2 c.words.length q2)) 31)∧hp w' w1.heap.size=some (.cells (aa { h with cell:=(i:Int),seen:=1,wait:=t,out:=e }) 49))
         (first|(simp [*,go_sem]))
         (first|((go_at_call 247;refine au w zB fun bb=>?_;refine au w1 zB fun bk=>?_;refine (dm _ _ _).mono ?_;rintro _ w2 ⟨rfl,hbw2⟩;have dh:=bT bb hbw2;have aR:=hbw2.size;(try simp at aR);have zz:=And.intro (hQ hbw2 (b:=w1.heap.size)) <| And.intro (hQ hbw2 (b:=w.heap.size+1+1+1)) <| And.intro (hQ hbw2 (b:=w.heap.size+1+1)) <| And.intro (hQ hbw2 (b:=w.heap.size+1)) <| hQ hbw2 (b:=w.heap.size);(first|simp [go_sem,bX,k0,k1,k2,k3,k4] at zz|simp [go_sem] at zz|skip);replace bX:=jb zz;clear zz;have dW:=bT bk hbw2;clear hbw2 bb bk);have r1:=own_below p1 dW;have r2:=own_below p2 dW)))
    go_wp2
    first
    | (replace mA:=mA;refine rE Tryz.results262 rfl (az c (.slice (some ⟨g,0,none⟩) c.cells.length q1) (.slice a2 c.words.length q2) tZ) rfl (aj { dw h ⟨0,e,t⟩ with pos:=11 } (by simp [go_sem, *] <;> first|rfl|simp [dw,hci])) ⟨⟨_,_,rfl,?_,?_,av _ _,av _ _⟩,dA zB⟩)
    | (replace mB:=mB;refine rE Tryz.results262 rfl (az c (.slice (some ⟨g,0,none⟩) c.cells.length q1) (.slice a2 c.words.length q2) tZ) rfl (aj { dw h ⟨1,e,t⟩ with pos:=11 } (by simp [go_sem, *] <;> first|rfl|simp [dw,hci])) ⟨⟨_,_,rfl,?_,?_,av _ _,av _ _⟩,dA zB⟩)
    · exact zO r1 o1
    · exact zO r2 o2
theorem BX (c:Ch) (h:Ha) (v1 v2:Value) (lo:Nat) (w:World) (h1:ah w lo v1 c.cells) (h2:ai w lo v2 c.words) (hc0:0≤h.cell) (hc1:h.cell<c.cells.length) (hn:(cellAt c h.cell).s=0) :
    Calls Tryz.prog 262 #[.agg (af c v1 v2),.agg (aa h)] w fun r w'=>cK w w' lo v1 v2 ((c,{ dw h (cellAt c h.cell) with pos:=11 },true)) r:=(qj c h v1 v2 lo w h1 h2 hc0 hc1).1 hn
theorem BZ (c:Ch) (h:Ha) (v1 v2:Value) (lo:Nat) (w:World) (h1:ah w lo v1 c.cells) (h2:ai w lo v2 c.words) (hc0:0≤h.cell) (hc1:h.cell<c.cells.length) (hn:(cellAt c h.cell).s=1) :
    Calls Tryz.prog 262 #[.agg (af c v1 v2),.agg (aa h)] w fun r w'=>cK w w' lo v1 v2 ((c,{ dw h (cellAt c h.cell) with pos:=11 },true)) r:=(qj c h v1 v2 lo w h1 h2 hc0 hc1).2 hn
theorem ql (c:Ch) (h:Ha) (v1 v2:Value) (lo:Nat) (w:World) (h1:ah w lo v1 c.cells) (h2:ai w lo v2 c.words) (hc0:0≤h.cell) (hc1:h.cell<c.cells.length) :
    (∀ (hn:(cellAt c h.cell).s=2),Calls Tryz.prog 262 #[.agg (af c v1 v2),.agg (aa h)] w fun r w'=>cK w w' lo v1 v2 ((c,{ dw h (cellAt c h.cell) with pos:=12 },true)) r) ∧
    (∀ (hn:(cellAt c h.cell).s=3),Calls Tryz.prog 262 #[.agg (af c v1 v2),.agg (aa h)] w fun r w'=>cK w w' lo v1 v2 ((c,{ dw h (cellAt c h.cell) with pos:=12 },true)) r):=by
  constructor
  case' left =>
    intro hn
    have mA:Hid (0=0):=rfl
  case' right =>
    intro hn
    have mB:Hid (0=0):=rfl
  all_goals
    obtain ⟨i,hci⟩:∃ i:Nat,h.cell=(i:Int):=⟨h.cell.toNat,by omega⟩
    have hi:i<c.cells.length:=by omega
    have hi0:(0:Int)≤(i:Int):=by omega
    have hi1:(i:Int)<(c.cells.length:Int):=by omega
    have hne:=h1.ne h2
    obtain ⟨a2,q2,rfl,_⟩:=h2.seg
    obtain ⟨g,q1,rfl,hlo1,hlt,hcell,hfr⟩:=h1.open1 hi
    have O1:=Lib.hid h1
    have O2:=Lib.hid h2
    have jN:g<w.heap.size+1:=by omega
    have jO:g<w.heap.size+1+1:=by omega
    have jP:g<w.heap.size+1+1+1:=by omega
    have xV:g≠w.heap.size:=by omega
    have xW:g≠w.heap.size+1:=by omega
    have xX:g≠w.heap.size+1+1:=by omega
    have xY:g≠w.heap.size+1+1+1:=by omega
    have zo:w.heap.size≠g:=by omega
    have zq:w.heap.size+1≠g:=by omega
    have zt:w.heap.size+1+1≠g:=by omega
    have zu:w.heap.size+1+1+1≠g:=by omega
    have hx:Hid (cellAt c h.cell=c.cells.getD i ⟨0,0,0⟩):=by simp [cellAt,Hid,hci]
    have c0:=hcell 0 tO
    have c1:=hcell 1 tO
    have c2:=hcell 2 tO
    simp only [C3.val,Nat.add_zero] at c0 c1 c2
    have ex:=hx.out
    rw [ex] at hn ⊢
    generalize c.cells.getD i ⟨0,0,0⟩=x at *
    obtain ⟨s,e,t⟩:=x
    simp only at hn c0 c1 c2
    subst hn
    clear hx ex hcell h1 h2
    have o1:=O1.out
    have o2:=O2.out
    go_enter Tryz.func262,Tryz.ntmps262
    first
    | (replace mA:=mA;go_wp2_with fail;refine au w zB fun bb=>?_;refine (iX h 2 e t _).mono ?_;rintro _ w1 ⟨rfl,ag⟩;obtain ⟨aV,ak,zz⟩:=vX bb ag (b:=w.heap.size);(try simp at ak);(try simp [go_sem] at zz);replace bX:=jb zz;clear zz;have eD:=aV;clear ag bb)
    | (replace mB:=mB;go_wp2_with fail;refine au w zB fun bb=>?_;refine (iX h 3 e t _).mono ?_;rintro _ w1 ⟨rfl,ag⟩;obtain ⟨aV,ak,zz⟩:=vX bb ag (b:=w.heap.size);(try simp at ak);(first|simp [go_sem,bX] at zz|simp [go_sem] at zz|skip);replace bX:=jb zz;clear zz;have eD:=aV;clear ag bb)
    have p1:=own_below o1 eD
    have p2:=own_below o2 eD
    obtain ⟨k0,k1,k2,k3⟩:=jW (a:=w.heap.size) (b:=w1.heap.size)
    have k4:w.heap.size+1+1+1+1<w1.heap.size:=by omega
    have j0:w.heap.size<w1.heap.size+1:=by omega
    have j1:w.heap.size+1<w1.heap.size+1:=by omega
    have j2:w.heap.size+1+1<w1.heap.size+1:=by omega
    have j3:w.heap.size+1+1+1<w1.heap.size+1:=by omega
    have j4:w.heap.size+1+1+1+1<w1.heap.size+1:=by omega
    go_wp2_with fail
    first
    | (replace mA:=mA
       go_region_held3 (fun w'=>hp w' w.heap.size=some (.cells (af c (.slice (some ⟨g,0,none⟩) c.cells.length q1) (.slice a2 c.words.length q2)) 31)∧hp w' w1.heap.size=some (.cells (aa { h with cell:=(i:Int),seen:=2,wait:=t,out:=e }) 49))
         (first|(simp [*,go_sem]))
         (first|((go_at_call 247;refine au w zB fun bb=>?_;refine au w1 zB fun bk=>?_;refine (dm _ _ _).mono ?_;rintro _ w2 ⟨rfl,hbw2⟩;have dh:=bT bb hbw2;have aR:=hbw2.size;(try simp at aR);have zz:=And.intro (hQ hbw2 (b:=w1.heap.size)) <| And.intro (hQ hbw2 (b:=w.heap.size+1+1+1)) <| And.intro (hQ hbw2 (b:=w.heap.size+1+1)) <| And.intro (hQ hbw2 (b:=w.heap.size+1)) <| hQ hbw2 (b:=w.heap.size);(first|simp [go_sem,bX,k0,k1,k2,k3,k4] at zz|simp [go_sem] at zz|skip);replace bX:=jb zz;clear zz;have dW:=bT bk hbw2;clear hbw2 bb bk);have r1:=own_below p1 dW;have r2:=own_below p2 dW)))
    | (replace mB:=mB
       go_region_held3 (fun w'=>hp w' w.heap.size=some (.cells (af c (.slice (some ⟨g,0,none⟩) c.cells.length q1) (.slice a2 c.words.length q2)) 31)∧hp w' w1.heap.size=some (.cells (aa { h with cell:=(i:Int),seen:=3,wait:=t,out:=e }) 49))
         (first|(simp [*,go_sem]))
         (first|((go_at_call 247;refine au w zB fun bb=>?_;refine au w1 zB fun bk=>?_;refine (dm _ _ _).mono ?_;rintro _ w2 ⟨rfl,hbw2⟩;have dh:=bT bb hbw2;have aR:=hbw2.size;(try simp at aR);have zz:=And.intro (hQ hbw2 (b:=w1.heap.size)) <| And.intro (hQ hbw2 (b:=w.heap.size+1+1+1)) <| And.intro (hQ hbw2 (b:=w.heap.size+1+1)) <| And.intro (hQ hbw2 (b:=w.heap.size+1)) <| hQ hbw2 (b:=w.heap.size);(first|simp [go_sem,bX,k0,k1,k2,k3,k4] at zz|simp [go_sem] at zz|skip);replace bX:=jb zz;clear zz;have dW:=bT bk hbw2;clear hbw2 bb bk);have r1:=own_below p1 dW;have r2:=own_below p2 dW)))
    go_wp2
    first
    | (replace mA:=mA;refine rE Tryz.results262 rfl (az c (.slice (some ⟨g,0,none⟩) c.cells.length q1) (.slice a2 c.words.length q2) tZ) rfl (aj { dw h ⟨2,e,t⟩ with pos:=12 } (by simp [go_sem, *] <;> first|rfl|simp [dw,hci])) ⟨⟨_,_,rfl,?_,?_,av _ _,av _ _⟩,dA zB⟩)
    | (replace mB:=mB;refine rE Tryz.results262 rfl (az c (.slice (some ⟨g,0,none⟩) c.cells.length q1) (.slice a2 c.words.length q2) tZ) rfl (aj { dw h ⟨3,e,t⟩ with pos:=12 } (by simp [go_sem, *] <;> first|rfl|simp [dw,hci])) ⟨⟨_,_,rfl,?_,?_,av _ _,av _ _⟩,dA zB⟩)
    · exact zO r1 o1
    · exact zO r2 o2
theorem Ca (c:Ch) (h:Ha) (v1 v2:Value) (lo:Nat) (w:World) (h1:ah w lo v1 c.cells) (h2:ai w lo v2 c.words) (hc0:0≤h.cell) (hc1:h.cell<c.cells.length) (hn:(cellAt c h.cell).s=2) :
    Calls Tryz.prog 262 #[.agg (af c v1 v2),.agg (aa h)] w fun r w'=>cK w w' lo v1 v2 ((c,{ dw h (cellAt c h.cell) with pos:=12 },true)) r:=(ql c h v1 v2 lo w h1 h2 hc0 hc1).1 hn
theorem Cb (c:Ch) (h:Ha) (v1 v2:Value) (lo:Nat) (w:World) (h1:ah w lo v1 c.cells) (h2:ai w lo v2 c.words) (hc0:0≤h.cell) (hc1:h.cell<c.cells.length) (hn:(cellAt c h.cell).s=3) :
    Calls Tryz.prog 262 #[.agg (af c v1 v2),.agg (aa h)] w fun r w'=>cK w w' lo v1 v2 ((c,{ dw h (cellAt c h.cell) with pos:=12 },true)) r:=(ql c h v1 v2 lo w h1 h2 hc0 hc1).2 hn
theorem Cc (c:Ch) (h:Ha) (v1 v2:Value) (lo:Nat) (w:World) (h1:ah w lo v1 c.cells) (h2:ai w lo v2 c.words) (hc0:0≤h.cell) (hc1:h.cell<c.cells.length) (hn:(cellAt c h.cell).s=9) (hk:dO h.code h.elem=true) :
    bY 262 c h v1 v2 lo w ((c,anew h,true)):=by
  obtain ⟨i,hci⟩:∃ i:Nat,h.cell=(i:Int):=⟨h.cell.toNat,by omega⟩
  have hi:i<c.cells.length:=by omega
  have hi0:(0:Int)≤(i:Int):=by omega
  have hi1:(i:Int)<(c.cells.length:Int):=by omega
  have hne:=h1.ne h2
  obtain ⟨a2,q2,rfl,_⟩:=h2.seg
  obtain ⟨g,q1,rfl,hlo1,hlt,hcell,hfr⟩:=h1.open1 hi
  have O1:=Lib.hid h1
  have O2:=Lib.hid h2
  have jN:g<w.heap.size+1:=by omega
  have jO:g<w.heap.size+1+1:=by omega
  have jP:g<w.heap.size+1+1+1:=by omega
  have xV:g≠w.heap.size:=by omega
  have xW:g≠w.heap.size+1:=by omega
  have xX:g≠w.heap.size+1+1:=by omega
  have xY:g≠w.heap.size+1+1+1:=by omega
  have zo:w.heap.size≠g:=by omega
  have zq:w.heap.size+1≠g:=by omega
  have zt:w.heap.size+1+1≠g:=by omega
  have zu:w.heap.size+1+1+1≠g:=by omega
  have hx:Hid (cellAt c h.cell=c.cells.getD i ⟨0,0,0⟩):=by simp [cellAt,Hid,hci]
  have c0:=hcell 0 tO
  have c1:=hcell 1 tO
  have c2:=hcell 2 tO
  simp only [C3.val,Nat.add_zero] at c0 c1 c2
  have ex:=hx.out
  rw [ex] at hn
  generalize c.cells.getD i ⟨0,0,0⟩=x at *
  obtain ⟨s,e,t⟩:=x
  simp only at hn c0 c1 c2
  subst hn
  clear hx ex hcell h1 h2
  obtain ⟨y0,hk0⟩:∃ y0,anew h=y0:=⟨_,rfl⟩
  have AN:=Lib.hid fun W=>rF h hk W
  rw [hk0] at AN
  rw [hk0]
  clear hk0 hk
  have o1:=O1.out
  have o2:=O2.out
  go_enter Tryz.func262,Tryz.ntmps262
  go_wp2_with fail;refine au w zB fun bb=>?_;refine (iX h 9 e t _).mono ?_;rintro _ w1 ⟨rfl,ag⟩;obtain ⟨aV,ak,zz⟩:=vX bb ag (b:=w.heap.size);(try simp at ak);(try simp [go_sem] at zz);replace bX:=jb zz;clear zz;have eD:=aV;clear ag bb
  have p1:=own_below o1 eD
  have p2:=own_below o2 eD
  obtain ⟨k0,k1,k2,k3⟩:=jW (a:=w.heap.size) (b:=w1.heap.size)
  have k4:w.heap.size+1+1+1+1<w1.heap.size:=by omega
  have j0:w.heap.size<w1.heap.size+1:=by omega
  have j1:w.heap.size+1<w1.heap.size+1:=by omega
  have j2:w.heap.size+1+1<w1.heap.size+1:=by omega
  have j3:w.heap.size+1+1+1<w1.heap.size+1:=by omega
  have j4:w.heap.size+1+1+1+1<w1.heap.size+1:=by omega
  go_wp2_with fail
  go_region_held3 (fun w'=>hp w' w.heap.size=some (.cells (af c (.slice (some ⟨g,0,none⟩) c.cells.length q1) (.slice a2 c.words.length q2)) 31)∧hp w' (w.heap.size+1)=some (.cells (aa h) 49))
    (first|(simp [*,go_sem]))
    (first|((go_at_call 250;refine au w zB fun bb=>?_;refine au w1 zB fun bk=>?_;refine (AN.out _).mono ?_;rintro _ w2 ⟨rfl,hbw2⟩;have dh:=bT bb hbw2;have aR:=hbw2.size;(try simp at aR);have zz:=And.intro (hQ hbw2 (b:=w1.heap.size)) <| And.intro (hQ hbw2 (b:=w.heap.size+1+1+1)) <| And.intro (hQ hbw2 (b:=w.heap.size+1+1)) <| And.intro (hQ hbw2 (b:=w.heap.size+1)) <| hQ hbw2 (b:=w.heap.size);(first|simp [go_sem,bX,k0,k1,k2,k3,k4] at zz|simp [go_sem] at zz|skip);replace bX:=jb zz;clear zz;have dW:=bT bk hbw2;clear hbw2 bb bk);have r1:=own_below p1 dW;have r2:=own_below p2 dW))
  go_wp2
  refine rE Tryz.results262 rfl (az c (.slice (some ⟨g,0,none⟩) c.cells.length q1) (.slice a2 c.words.length q2) tZ) rfl (aj y0 (by simp [go_sem, *] <;> first|rfl|simp [dw,hci])) ⟨⟨_,_,rfl,?_,?_,av _ _,av _ _⟩,dA zB⟩
  · exact zO r1 o1
  · exact zO r2 o2
theorem Ce (c:Ch) (h:Ha) (v1 v2:Value) (lo:Nat) (w:World) (h1:ah w lo v1 c.cells) (h2:ai w lo v2 c.words) (hc0:0≤h.cell) (hc1:h.cell<c.cells.length) (hn:(cellAt c h.cell).s=6) :
    bY 262 c h v1 v2 lo w ((c,h,false)):=by
  obtain ⟨i,hci⟩:∃ i:Nat,h.cell=(i:Int):=⟨h.cell.toNat,by omega⟩
  have hi:i<c.cells.length:=by omega
  have hi0:(0:Int)≤(i:Int):=by omega
  have hi1:(i:Int)<(c.cells.length:Int):=by omega
  have hne:=h1.ne h2
  obtain ⟨a2,q2,rfl,_⟩:=h2.seg
  obtain ⟨g,q1,rfl,hlo1,hlt,hcell,hfr⟩:=h1.open1 hi
  have O1:=Lib.hid h1
  have O2:=Lib.hid h2
  have jN:g<w.heap.size+1:=by omega
  have jO:g<w.heap.size+1+1:=by omega
  have jP:g<w.heap.size+1+1+1:=by omega
  have xV:g≠w.heap.size:=by omega
  have xW:g≠w.heap.size+1:=by omega
  have xX:g≠w.heap.size+1+1:=by omega
  have xY:g≠w.heap.size+1+1+1:=by omega
  have zo:w.heap.size≠g:=by omega
  have zq:w.heap.size+1≠g:=by omega
  have zt:w.heap.size+1+1≠g:=by omega
  have zu:w.heap.size+1+1+1≠g:=by omega
  have hx:Hid (cellAt c h.cell=c.cells.getD i ⟨0,0,0⟩):=by simp [cellAt,Hid,hci]
  have c0:=hcell 0 tO
  have c1:=hcell 1 tO
  have c2:=hcell 2 tO
  simp only [C3.val,Nat.add_zero] at c0 c1 c2
  have ex:=hx.out
  rw [ex] at hn
  generalize c.cells.getD i ⟨0,0,0⟩=x at *
  obtain ⟨s,e,t⟩:=x
  simp only at hn c0 c1 c2
  subst hn
  clear hx ex hcell h1 h2
  have o1:=O1.out
  have o2:=O2.out
  go_enter Tryz.func262,Tryz.ntmps262
  go_wp2_with fail;refine au w zB fun bb=>?_;refine (iX h 6 e t _).mono ?_;rintro _ w1 ⟨rfl,ag⟩;obtain ⟨aV,ak,zz⟩:=vX bb ag (b:=w.heap.size);(try simp at ak);(try simp [go_sem] at zz);replace bX:=jb zz;clear zz;have eD:=aV;clear ag bb
  have p1:=own_below o1 eD
  have p2:=own_below o2 eD
  obtain ⟨k0,k1,k2,k3⟩:=jW (a:=w.heap.size) (b:=w1.heap.size)
  have k4:w.heap.size+1+1+1+1<w1.heap.size:=by omega
  have j0:w.heap.size<w1.heap.size+1:=by omega
  have j1:w.heap.size+1<w1.heap.size+1:=by omega
  have j2:w.heap.size+1+1<w1.heap.size+1:=by omega
  have j3:w.heap.size+1+1+1<w1.heap.size+1:=by omega
  have j4:w.heap.size+1+1+1+1<w1.heap.size+1:=by omega
  have r1:=p1
  have r2:=p2
  go_wp2_with fail
  go_region
  go_wp2
  refine rE Tryz.results262 rfl (az c (.slice (some ⟨g,0,none⟩) c.cells.length q1) (.slice a2 c.words.length q2) tZ) rfl (aj h (by simp [go_sem, *] <;> first|rfl|simp [dw,hci])) ⟨⟨_,_,rfl,?_,?_,av _ _,av _ _⟩,dA zB⟩
  · exact zO r1 o1
  · exact zO r2 o2
theorem zw (c:Ch) (h:Ha) (v1 v2:Value) (lo:Nat) (w:World) (h1:ah w lo v1 c.cells) (h2:ai w lo v2 c.words) (hc0:0≤h.cell) (hc1:h.cell<c.cells.length) (n0:((cellAt c h.cell).s == 0)=false) (n1:((cellAt c h.cell).s == 1)=false) (n2:((cellAt c h.cell).s == 2)=false) (n3:((cellAt c h.cell).s == 3)=false) (n9:((cellAt c h.cell).s == 9)=false) (n6:((cellAt c h.cell).s == 6)=false) :
    bY 262 c h v1 v2 lo w (nothing):=by
  have b1:=jc h1
  have b2:=jc h2
  have T:=Lib.hid fun W=>fO W lo v1 v2
  obtain ⟨i,hci⟩:∃ i:Nat,h.cell=(i:Int):=⟨h.cell.toNat,by omega⟩
  have hi:i<c.cells.length:=by omega
  have hi0:(0:Int)≤(i:Int):=by omega
  have hi1:(i:Int)<(c.cells.length:Int):=by omega
  have hne:=h1.ne h2
  obtain ⟨a2,q2,rfl,_⟩:=h2.seg
  obtain ⟨g,q1,rfl,hlo1,hlt,hcell,hfr⟩:=h1.open1 hi
  have O1:=Lib.hid h1
  have O2:=Lib.hid h2
  have jN:g<w.heap.size+1:=by omega
  have jO:g<w.heap.size+1+1:=by omega
  have jP:g<w.heap.size+1+1+1:=by omega
  have xV:g≠w.heap.size:=by omega
  have xW:g≠w.heap.size+1:=by omega
  have xX:g≠w.heap.size+1+1:=by omega
  have xY:g≠w.heap.size+1+1+1:=by omega
  have zo:w.heap.size≠g:=by omega
  have zq:w.heap.size+1≠g:=by omega
  have zt:w.heap.size+1+1≠g:=by omega
  have zu:w.heap.size+1+1+1≠g:=by omega
  have hx:Hid (cellAt c h.cell=c.cells.getD i ⟨0,0,0⟩):=by simp [cellAt,Hid,hci]
  have c0:=hcell 0 tO
  have c1:=hcell 1 tO
  have c2:=hcell 2 tO
  simp only [C3.val,Nat.add_zero] at c0 c1 c2
  have m1:∀ j,w.heap.size≤j→some j≠(Value.slice (some ⟨g,0,none⟩) c.cells.length q1).ownBlock:=fun j hj e=>by have:=b1 _ e.symm;omega
  have m2:∀ j,w.heap.size≤j→some j≠(Value.slice a2 c.words.length q2).ownBlock:=fun j hj e=>by have:=b2 _ e.symm;omega
  have m10:=m1 (w.heap.size) tO
  have m20:=m2 (w.heap.size) tO
  have m11:=m1 (w.heap.size+1) tO
  have m21:=m2 (w.heap.size+1) tO
  have m12:=m1 (w.heap.size+1+1) tO
  have m22:=m2 (w.heap.size+1+1) tO
  have m13:=m1 (w.heap.size+1+1+1) tO
  have m23:=m2 (w.heap.size+1+1+1) tO
  have ex:=hx.out
  rw [ex] at n0 n1 n2 n3 n9 n6
  generalize c.cells.getD i ⟨0,0,0⟩=x0 at *
  obtain ⟨ss,e,t⟩:=x0
  simp only at n0 n1 n2 n3 n9 n6 c0 c1 c2
  generalize nothing=x at *
  clear hcell hx h1 h2 hc0 hc1 ex
  have o1:=O1.out
  have o2:=O2.out
  go_enter Tryz.func262,Tryz.ntmps262
  go_wp2_with fail;refine au w zB fun bb=>?_;refine (iX h ss e t _).mono ?_;rintro _ w1 ⟨rfl,ag⟩;obtain ⟨aV,ak,zz⟩:=vX bb ag (b:=w.heap.size);(try simp at ak);(try simp [go_sem] at zz);replace bX:=jb zz;clear zz;have eD:=aV;clear ag bb
  go_wp2_with fail
  refine (T.out _).mono ?_
  rintro _ w3 ⟨⟨y1,y2,rfl,aO,aQ,dH,dF⟩,aC⟩
  have hO3:gV (Value.slice (some ⟨g,0,none⟩) c.cells.length q1).ownBlock (Value.slice a2 c.words.length q2).ownBlock w w3:=fA (dA zB) (dA aC)
  have bM:=aC.size;(try simp at bM);have zz:=AZ aC (b:=w.heap.size);(first|simp [go_sem,bX] at zz|simp [go_sem] at zz|skip);replace bX:=dx zz;clear zz aC
  obtain ⟨⟨aD,aF⟩,dQ,dR⟩:=sO (w:=w) (w.heap.size+1+1+1+1) dH dF b1 b2;obtain ⟨ya,yp,rfl,_⟩:=aO.seg;obtain ⟨yb,yq,rfl,_⟩:=aQ.seg
  go_wp2
  refine rE Tryz.results262 rfl (az x.1 (.slice ya x.1.cells.length yp) (.slice yb x.1.words.length yq) tY) rfl (aj x.2.1 tY) ⟨⟨_,_,rfl,?_,?_,dQ,dR⟩,by exact zN⟩
  · exact zP aO aO aD
  · exact zP aQ aQ aF
end
section
open Go.RowKit
attribute [local simp] aI
attribute [local go_sem ↓] aH aU aM bz aN bB aA aK ax aB
theorem Cf (c:Ch) (v1 v2:Value) (lo:Nat) (L:List Int) (m:Int) (w:World) (h1:ah w lo v1 c.cells) (h2:ai w lo v2 c.words) (hc:aG c=true) (hf:¬ 80≤c.words.length) (hL:L=c.words ++ [0]) (hm:m=(c.words.length:Int)+1) :
    Calls Tryz.prog 257 #[.agg (af c v1 v2)] w fun r w'=>(∃ y1 y2,r=.returned (.tuple #[.agg (af c y1 y2),.int .i64 m])∧ah w' w.heap.size y1 c.cells∧ai w' w.heap.size y2 L)∧Below w.heap.size w w':=by
  subst hL hm
  exact EN c v1 v2 lo w h1 h2 hc hf
theorem zx (c:Ch) (st:Int) (y z:Ha) (v1 v2:Value) (lo:Nat) (w:World) (h1:ah w lo v1 c.cells) (h2:ai w lo v2 c.words) (hc:aG c=true) (hf:80≤c.words.length) :
    Calls Tryz.prog 255 #[.agg (af c v1 v2),.int .i64 st,.agg (aa y),.agg (aa z)] w fun r w'=>StepB w w' lo v1 v2 ((c,aS 4 0,true)) r:=by
  obtain ⟨a1,q1,a2,q2,rfl,rfl,O1,O2,b1,b2⟩:=qH h1 h2
  clear h1 h2
  have o1:=O1.out
  have o2:=O2.out
  go_enter Tryz.func255,Tryz.ntmps255
  go_wp2_with fail;refine au w zB fun bb=>?_;refine (EM c _ _ lo _ (zO o1 o1) (zO o2 o2) hc hf).mono ?_;rintro _ w1 ⟨⟨y1,y2,rfl,aO,aQ⟩,ag⟩;obtain ⟨aV,ak,zz⟩:=vX bb ag (b:=w.heap.size);(try simp at ak);(try simp [go_sem] at zz);replace bX:=jb zz;clear zz;have eD:=aV;clear ag bb
  obtain ⟨ya,yp,rfl,_⟩:=aO.seg
  obtain ⟨yb,yq,rfl,_⟩:=aQ.seg
  obtain ⟨k0,k1,k2,k3⟩:=jW (a:=w.heap.size) (b:=w1.heap.size)
  have k4:w.heap.size+1+1+1+1<w1.heap.size:=by omega
  go_wp2_with fail
  go_region_held3 (fun w'=>hp w' w.heap.size=some (.cells (af c (.slice a1 c.cells.length q1) (.slice a2 c.words.length q2)) 31)∧hp w' (w.heap.size+1)=some (.cells (aa y) 49))
    (first|(simp [*,go_sem]))
    (first|((go_at_call 48;refine au w zB fun bb=>?_;refine (gY _ _ _).mono ?_;rintro _ w2 ⟨rfl,hbw2⟩;obtain ⟨dh,aR,zz⟩:=vX bb hbw2 (b:=w.heap.size);(try simp at aR);(first|simp [go_sem,bX,k0,k1,k2,k3,k4] at zz|simp [go_sem] at zz|skip);replace bX:=jb zz;clear zz;have dW:=dh;clear hbw2 bb);have p1:=own_below o1 dW;have p2:=own_below o2 dW))
  go_wp2
  refine rE Tryz.results255 rfl (az c (.slice a1 c.cells.length q1) (.slice a2 c.words.length q2) tZ) rfl (aj (aS 4 0) (by simp [go_sem, *] <;> first|rfl|simp [bL,anew,hci])) ⟨⟨_,_,rfl,?_,?_,av _ _,av _ _⟩,by exact zB⟩
  · exact zO p1 o1
  · exact zO p2 o2
theorem rQ (c:Ch) (st:Int) (y z:Ha) (v1 v2:Value) (lo:Nat) (w:World) (h1:ah w lo v1 c.cells) (h2:ai w lo v2 c.words) (hc0:0≤y.cell) (hc1:y.cell<c.cells.length) (hc:aG c=true) (hlo:lo≤w.heap.size) (hf:¬ 80≤c.words.length) (m:Int) (hm:m=(c.words.length:Int)+1) :
    (∀ (ht:bn c y.cell y.seen st m=false),Calls Tryz.prog 255 #[.agg (af c v1 v2),.int .i64 st,.agg (aa y),.agg (aa z)] w fun r w'=>StepB w w' lo v1 v2 ((c,z,true)) r) ∧
    (∀ (ht:bn c y.cell y.seen st m=true),Calls Tryz.prog 255 #[.agg (af c v1 v2),.int .i64 st,.agg (aa y),.agg (aa z)] w fun r w'=>StepB w w' lo v1 v2 (({ bf c y.cell y.seen st m with words:=c.words ++ [0] },{ y with mine:=m },true)) r):=by
  constructor
  case' left =>
    intro ht
    have mA:Hid (0=0):=rfl
  case' right =>
    intro ht
    have mB:Hid (0=0):=rfl
  all_goals
    obtain ⟨i,hci⟩:∃ i:Nat,y.cell=(i:Int):=⟨y.cell.toNat,by omega⟩
    have hi:i<c.cells.length:=by omega
    have hm0:(m == 0)=false:=by simp;omega
    have hmz:¬ m=0:=by omega
    obtain ⟨L,hL⟩:∃ L,L=c.words ++ [0]:=⟨_,rfl⟩
    have Qd:=Lib.hid fun v1 v2 lo W a1 a2=>Cf c v1 v2 lo L m W a1 a2 hc hf hL hm
    have T:=Lib.hid fun (u1 u2:Value) (lo:Nat) (W:World) (x1:ah W lo u1 c.cells) (x2:ai W lo u2 L)=>jM { c with words:=L } i y.seen st m u1 u2 lo W x1 x2 hi
    first
    | (replace mA:=mA;have ht2:bn { c with words:=L } i y.seen st m=false:=by rw [← ht,hci];rfl)
    | (replace mB:=mB;have ht2:bn { c with words:=L } i y.seen st m=true:=by rw [← ht,hci];rfl)
    rw [ht2] at T
    first
    | replace mA:=mA
    | (replace mB:=mB
       have e0:({ bf c y.cell y.seen st m with words:=c.words ++ [0] },{ y with mine:=m },true)=(({ bf c i y.seen st m with words:=L },{ y with mine:=m },true):St):=by rw [hci,hL]
       rw [e0]
       clear e0)
    clear hm hf hL ht ht2 hc0 hc1
    have b1:=jc h1
    have b2:=jc h2
    have o1:=h1
    have o2:=h2
    obtain ⟨a1,q1,e1,_⟩:=h1.seg
    obtain ⟨a2,q2,e2,_⟩:=h2.seg
    subst e1 e2
    clear h1 h2
    go_enter Tryz.func255,Tryz.ntmps255
    go_wp2_with fail;refine au w zB fun bb=>?_;refine (Qd.out _ _ lo _ (zO o1 o1) (zO o2 o2)).mono ?_;rintro _ w1 ⟨⟨y1,y2,rfl,aO,aQ⟩,ag⟩;obtain ⟨aV,ak,zz⟩:=vX bb ag (b:=w.heap.size);(try simp at ak);(try simp [go_sem] at zz);replace bX:=jb zz;clear zz;have eD:=aV;clear ag bb
    try simp at aO aQ
    have dH:dY w (.slice a1 c.cells.length q1) y1:=fun j hj=>.inr (by have:=(aO.lt j hj).1;omega)
    have dF:dY w (.slice a2 c.words.length q2) y2:=fun j hj=>.inr (by have:=(aQ.lt j hj).1;omega)
    have n0:some (w.heap.size)≠y1.ownBlock:=fun e=>by have:=(aO.lt _ e.symm).1;omega
    have n1:some (w.heap.size+1)≠y1.ownBlock:=fun e=>by have:=(aO.lt _ e.symm).1;omega
    have n2:some (w.heap.size+1+1)≠y1.ownBlock:=fun e=>by have:=(aO.lt _ e.symm).1;omega
    have n3:some (w.heap.size+1+1+1)≠y1.ownBlock:=fun e=>by have:=(aO.lt _ e.symm).1;omega
    have n4:some (w.heap.size+1+1+1+1)≠y1.ownBlock:=fun e=>by have:=(aO.lt _ e.symm).1;omega
    have n5:some w1.heap.size≠y1.ownBlock:=fun e=>by have:=(aO.lt _ e.symm).2;omega
    have P8:∀ k,y1.ownBlock=some k→w.heap.size≤k:=fun k hk=>by have:=(aO.lt k hk).1;omega
    obtain ⟨ya,yp,e1,_⟩:=aO.seg
    obtain ⟨yb,yq,e2,_⟩:=aQ.seg
    subst e1 e2
    obtain ⟨k0,k1,k2,k3⟩:=jW (a:=w.heap.size) (b:=w1.heap.size)
    have k4:w.heap.size+1+1+1+1<w1.heap.size:=by omega
    have r1:=ay (lo':=lo) aO tO
    have r2:=ay (lo':=lo) aQ tO
    go_wp2_with fail;refine (T.out _ _ lo _ (zO r1 aO) (zO r2 aQ)).mono ?_;rintro _ w2 ⟨rfl,p1,p2,q8⟩;have aR:=q8.size;(try (simp at aR));have zz:=And.intro (dN q8 (b:=w1.heap.size) tS (by assumption)) <| And.intro (dN q8 (b:=w.heap.size+1+1+1+1) tS (by assumption)) <| And.intro (dN q8 (b:=w.heap.size+1+1+1) tS (by assumption)) <| And.intro (dN q8 (b:=w.heap.size+1+1) tS (by assumption)) <| And.intro (dN q8 (b:=w.heap.size+1) tS (by assumption)) <| dN q8 (b:=w.heap.size) tS (by assumption);(first|simp [go_sem,bX,k0,k1,k2,k3,k4] at zz|simp [go_sem] at zz|skip);replace bX:=PQ zz;clear zz;have OJ:=Gg (w:=w) zB q8;clear q8
    have hO2:gV (Value.slice ya c.cells.length yp).ownBlock (Value.slice ya c.cells.length yp).ownBlock w w2:=kS OJ
    have hB2:Below w.heap.size w w2:=Bc (Below.refl _ _) hO2 P8 P8
    have hs2:=hB2.size
    have j0:w.heap.size<w2.heap.size:=by omega
    have j1:w.heap.size+1<w2.heap.size:=by omega
    have j2:w.heap.size+1+1<w2.heap.size:=by omega
    have j3:w.heap.size+1+1+1<w2.heap.size:=by omega
    have j4:w.heap.size+1+1+1+1<w2.heap.size:=by omega
    first
    | (replace mA:=mA
       have s1:=own_below o1 hB2
       have s2:=own_below o2 hB2)
    | (replace mB:=mB
       have s1:ah w2 lo (.slice ya c.cells.length yp) (bf c i y.seen st m).cells:=p1
       have s2:ai w2 lo (.slice yb L.length yq) L:=p2)
    go_wp2_with fail
    go_region
    all_goals go_wp2
    first
    | (replace mA:=mA
       all_goals (refine rE Tryz.results255 rfl (az c (.slice a1 c.cells.length q1) (.slice a2 c.words.length q2) tZ) rfl (aj z tZ) ⟨⟨_,_,rfl,?_,?_,av _ _,av _ _⟩,by exact zB⟩)
       all_goals first|(show ah _ _ _ c.cells;exact zO s1 o1)|skip
       all_goals (show ai _ _ _ c.words;exact zO s2 o2))
    | (replace mB:=mB
       all_goals (refine rE Tryz.results255 rfl (az c (.slice ya c.cells.length yp) (.slice yb L.length yq) tZ) rfl (aj { y with mine:=m } tZ) ⟨⟨_,_,rfl,?_,?_,dH,dF⟩,by exact zB⟩)
       all_goals first|(show ah _ _ _ (bf c i y.seen st m).cells;exact zO s1 aO)|skip
       all_goals (show ai _ _ _ L;exact zO s2 aQ))
theorem EP (c:Ch) (st:Int) (y z:Ha) (v1 v2:Value) (lo:Nat) (w:World) (h1:ah w lo v1 c.cells) (h2:ai w lo v2 c.words) (hc0:0≤y.cell) (hc1:y.cell<c.cells.length) (hc:aG c=true) (hlo:lo≤w.heap.size) (hf:¬ 80≤c.words.length) (m:Int) (hm:m=(c.words.length:Int)+1) (ht:bn c y.cell y.seen st m=false) :
    Calls Tryz.prog 255 #[.agg (af c v1 v2),.int .i64 st,.agg (aa y),.agg (aa z)] w fun r w'=>StepB w w' lo v1 v2 ((c,z,true)) r:=(rQ c st y z v1 v2 lo w h1 h2 hc0 hc1 hc hlo hf m hm).1 ht
theorem Cg (c:Ch) (st:Int) (y z:Ha) (v1 v2:Value) (lo:Nat) (w:World) (h1:ah w lo v1 c.cells) (h2:ai w lo v2 c.words) (hc0:0≤y.cell) (hc1:y.cell<c.cells.length) (hc:aG c=true) (hlo:lo≤w.heap.size) (hf:¬ 80≤c.words.length) (m:Int) (hm:m=(c.words.length:Int)+1) (ht:bn c y.cell y.seen st m=true) :
    Calls Tryz.prog 255 #[.agg (af c v1 v2),.int .i64 st,.agg (aa y),.agg (aa z)] w fun r w'=>StepB w w' lo v1 v2 (({ bf c y.cell y.seen st m with words:=c.words ++ [0] },{ y with mine:=m },true)) r:=(rQ c st y z v1 v2 lo w h1 h2 hc0 hc1 hc hlo hf m hm).2 ht
def zy (c:Ch) (st:Int) (y z:Ha):St :=
  if 80≤c.words.length then (c,aS 4 0,true) else
  if bn c y.cell y.seen st (c.words.length+1) then ({ bf c y.cell y.seen st (c.words.length+1) with words:=c.words ++ [0] },{ y with mine:=c.words.length+1 },true) else (c,z,true)
theorem Ci (c:Ch) (st:Int) (y z:Ha) (v1 v2:Value) (lo:Nat) (w:World) (h1:ah w lo v1 c.cells) (h2:ai w lo v2 c.words) (hc0:0≤y.cell) (hc1:y.cell<c.cells.length) (hc:aG c=true) (hlo:lo≤w.heap.size) :
    Calls Tryz.prog 255 #[.agg (af c v1 v2),.int .i64 st,.agg (aa y),.agg (aa z)] w fun r w'=>StepB w w' lo v1 v2 (zy c st y z) r:=by
  by_cases hf:80≤c.words.length
  · rw [show zy c st y z=(c,aS 4 0,true) by simp [zy,hf]]
    exact zx c st y z v1 v2 lo w h1 h2 hc hf
  · cases ht:bn c y.cell y.seen st (c.words.length+1) with
    | true =>
      rw [show zy c st y z=({ bf c y.cell y.seen st (c.words.length+1) with words:=c.words ++ [0] },{ y with mine:=c.words.length+1 },true) by simp [zy,hf,ht]]
      exact Cg c st y z v1 v2 lo w h1 h2 hc0 hc1 hc hlo hf _ rfl ht
    | false =>
      rw [show zy c st y z=(c,z,true) by simp [zy,hf,ht]]
      exact EP c st y z v1 v2 lo w h1 h2 hc0 hc1 hc hlo hf _ rfl ht
end
end Go.Proofs.YtffhjmepfojhnaaGreat
