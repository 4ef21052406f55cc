/-
  The program's growing, numbering and turning of receiving, on hands and channels that are kept whole; the lists are the call's own.
-/
import Derived.Test.YtffhjmepfojhnaaGreatR15
import Derived.Test.YtffhjmepfojhnaaGreatR13
import Derived.Test.YtffhjmepfojhnaaGreatR01
import Derived.BigRegion
import Derived.Deep.DeepCutAuto
import Derived.Deep.RegionHeld3
import Derived.Test.YtffhjmepfojhnaaGreatR11
import Derived.Deep.RegionLaw
set_option maxRecDepth 100000
set_option maxHeartbeats 4000000
set_option linter.unusedSimpArgs false
set_option linter.unusedVariables false
namespace Go.Proofs.YtffhjmepfojhnaaGreat
section
open Go.RowKit
attribute [local simp] aC
attribute [local go_sem ↓] aB aU aL bB aM bC aG aN au aF
theorem mf (h:Ha) (t:Int) (w:World):Calls Tryz.prog 264 #[.agg (aa h),.int .i64 t] w fun r w'=>r=.returned (.agg (aa (dR h t)))∧Below w.heap.size w w':=by
 go_enter Tryz.func264,Tryz.ntmps264
 go_wp2_with fail;refine ax w zB fun bb=>?_;refine (cZ { h with nxt:=t } 16 _).mono ?_;rintro _ w1 ⟨rfl,ah⟩;obtain ⟨aW,ay,zz⟩:=CK bb ah (b:=w.heap.size);(try simp at ay);(try simp [go_sem] at zz);replace bX:=zS zz;clear zz ah bb
 go_wp2
 refine bodyPost_ret (ic Tryz.results264 rfl (aj (dR h t) tZ)) rfl ⟨rfl,by exact zB⟩
theorem yB (c:Ch) (h:Ha) (v1 v2:Value) (lo:Nat) (w:World) (h1:ag w lo v1 c.cells) (h2:ai w lo v2 c.words) (hs:c.got=40) :
  cu 261 c h v1 v2 lo w ((c,aP 4 0,true)):=by
 obtain ⟨a1,q1,a2,q2,rfl,rfl,O1,O2,b1,b2⟩:=ql h1 h2
 clear h1 h2
 have o1:=O1.out
 have o2:=O2.out
 go_enter Tryz.func261,Tryz.ntmps261
 go_wp2_with fail
 go_region_held3 (fun w'=>hp w' w.heap.size=some (.cells (af c (.slice a1 c.cells.length q1) (.slice a2 c.words.length q2)) 31)∧hp w' (w.heap.size+1)=some (.cells (aa h) 49))
  (first|(simp [*,go_sem]))
  (first|((go_at_call 48;refine ax w zB fun bb=>?_;refine (fT _ _ _).mono ?_;rintro _ w1 ⟨rfl,ah⟩;obtain ⟨aW,ay,zz⟩:=dZ bb ah (b:=w.heap.size);(try simp at ay);(try simp [go_sem] at zz);replace bX:=dF zz;clear zz;have dG:=aW;clear ah bb);have p1:=own_below o1 dG;have p2:=own_below o2 dG))
 go_wp2
 refine rE Tryz.results261 rfl (az c (.slice a1 c.cells.length q1) (.slice a2 c.words.length q2) tZ) rfl (aj (aP 4 0) tZ) ⟨⟨_,_,rfl,?_,?_,ak _ _,ak _ _⟩,dx zB⟩
 ·exact zO p1 o1
 ·exact zO p2 o2
theorem yC (c:Ch) (h:Ha) (v1 v2:Value) (lo:Nat) (w:World) (h1:ag w lo v1 c.cells) (h2:ai w lo v2 c.words) (hs:¬ c.got=40) (CY:0≤c.got∧c.got≤40) :
  cu 261 c h v1 v2 lo w (({ c with got:=c.got+1 },{ h with cell:=c.got,pos:=10 },true)):=by
 obtain ⟨a1,q1,a2,q2,rfl,rfl,O1,O2,b1,b2⟩:=ql h1 h2
 clear h1 h2
 have o1:=O1.out
 have o2:=O2.out
 go_enter Tryz.func261,Tryz.ntmps261
 go_wp2_with fail
 go_region_held3 (fun w'=>hp w' w.heap.size=some (.cells (af { c with got:=c.got+1 } (.slice a1 c.cells.length q1) (.slice a2 c.words.length q2)) 31)∧hp w' (w.heap.size+1)=some (.cells (aa { h with cell:=c.got }) 49))
  (first|(simp [*,go_sem]))
  (first|((go_at_call 247;refine ax w zB fun bb=>?_;refine (cZ _ _ _).mono ?_;rintro _ w1 ⟨rfl,ah⟩;obtain ⟨aW,ay,zz⟩:=dZ bb ah (b:=w.heap.size);(try simp at ay);(try simp [go_sem] at zz);replace bX:=dF zz;clear zz;have dG:=aW;clear ah bb);have p1:=own_below o1 dG;have p2:=own_below o2 dG))
 go_wp2
 refine rE Tryz.results261 rfl (az { c with got:=c.got+1 } (.slice a1 c.cells.length q1) (.slice a2 c.words.length q2) tZ) rfl (aj { h with cell:=c.got,pos:=10 } tZ) ⟨⟨_,_,rfl,?_,?_,ak _ _,ak _ _⟩,dx zB⟩
 ·exact zO p1 o1
 ·exact zO p2 o2
theorem oW (c:Ch) (st wt:Int) (y z:Ha) (v1 v2:Value) (lo:Nat) (w:World) (h1:ag w lo v1 c.cells) (h2:ai w lo v2 c.words) (hc0:0≤y.cell) (hc1:y.cell<c.cells.length) :
  (∀ (ht:bn c y.cell y.seen st wt=true),Calls Tryz.prog 265 #[.agg (af c v1 v2),.int .i64 st,.int .i64 wt,.agg (aa y),.agg (aa z)] w fun r w'=>cz w w' lo v1 v2 (aY c y.cell y.seen st wt,y,true) r) ∧
  (∀ (ht:bn c y.cell y.seen st wt=false),Calls Tryz.prog 265 #[.agg (af c v1 v2),.int .i64 st,.int .i64 wt,.agg (aa y),.agg (aa z)] w fun r w'=>cz w w' lo v1 v2 (aY c y.cell y.seen st wt,z,true) r):=by
 constructor
 case' left =>
  intro ht
  have mA:Hid (0=0):=rfl
 case' right =>
  intro ht
  have mB:Hid (0=0):=rfl
 all_goals
  obtain ⟨i,hci⟩:∃ i:Nat,y.cell=(i:Int):=⟨y.cell.toNat,by omega⟩
  have hi:i<c.cells.length:=by omega
  have T:=Lib.hid fun W a b=>jO c i y.seen st wt v1 v2 lo W a b hi
  have ht2:=ht
  rw [hci] at ht2
  rw [ht2] at T
  have e0:aY c y.cell y.seen st wt=aY c i y.seen st wt:=by rw [hci]
  rw [e0]
  have b1:=jF h1
  have b2:=jF h2
  have m1:=mG b1
  have m2:=mG b2
  have m10:=m1 (w.heap.size) tO
  have m20:=m2 (w.heap.size) tO
  have m11:=m1 (w.heap.size+1) tO
  have m21:=m2 (w.heap.size+1) tO
  have m12:=m1 (w.heap.size+1+1) tO
  have m22:=m2 (w.heap.size+1+1) tO
  have m13:=m1 (w.heap.size+1+1+1) tO
  have m23:=m2 (w.heap.size+1+1+1) tO
  have m14:=m1 (w.heap.size+1+1+1+1) tO
  have m24:=m2 (w.heap.size+1+1+1+1) tO
  have o1:=h1
  have o2:=h2
  obtain ⟨a1,q1,e1,_⟩:=h1.seg
  obtain ⟨a2,q2,e2,_⟩:=h2.seg
  subst e1 e2
  clear h1 h2 ht ht2 e0 hc0 hc1
  go_enter Tryz.func265,Tryz.ntmps265
  go_wp2_with fail;refine (T.out _ (zO o1 o1) (zO o2 o2)).mono ?_;rintro _ w1 ⟨rfl,p1,p2,hgw1⟩;have ay:=hgw1.size;(try (simp at ay));have zz:=Tv hgw1 (b:=w.heap.size);(try simp [go_sem] at zz);replace bX:=jL zz;clear zz;have jZ:=FV (w:=w) zB hgw1;clear hgw1
  have vw:ik (Value.slice a1 c.cells.length q1).ownBlock (Value.slice a2 c.words.length q2).ownBlock w w1:=lW jZ
  obtain ⟨k0,k1,k2,k3⟩:=kZ (a:=w.heap.size) (b:=w1.heap.size)
  have k4:w.heap.size+1+1+1+1<w1.heap.size:=by omega
  have r1:ag w1 lo (.slice a1 c.cells.length q1) (aY c i y.seen st wt).cells:=p1
  have r2:ai w1 lo (.slice a2 c.words.length q2) (aY c i y.seen st wt).words:=p2
  clear p1 p2
  go_wp2_with fail
  go_region
  go_wp2
  first
  | (replace mA:=mA;refine rE Tryz.results265 rfl (az c (.slice a1 c.cells.length q1) (.slice a2 c.words.length q2) tZ) rfl (aj y tZ) ⟨⟨_,_,rfl,?_,?_,ak _ _,ak _ _⟩,by exact zN⟩)
  | (replace mB:=mB;refine rE Tryz.results265 rfl (az c (.slice a1 c.cells.length q1) (.slice a2 c.words.length q2) tZ) rfl (aj z tZ) ⟨⟨_,_,rfl,?_,?_,ak _ _,ak _ _⟩,by exact zN⟩)
  ·exact zO r1 o1
  ·exact zO r2 o2
theorem yD (c:Ch) (st wt:Int) (y z:Ha) (v1 v2:Value) (lo:Nat) (w:World) (h1:ag w lo v1 c.cells) (h2:ai w lo v2 c.words) (hc0:0≤y.cell) (hc1:y.cell<c.cells.length) (ht:bn c y.cell y.seen st wt=true) :
  Calls Tryz.prog 265 #[.agg (af c v1 v2),.int .i64 st,.int .i64 wt,.agg (aa y),.agg (aa z)] w fun r w'=>cz w w' lo v1 v2 (aY c y.cell y.seen st wt,y,true) r:=(oW c st wt y z v1 v2 lo w h1 h2 hc0 hc1).1 ht
theorem yE (c:Ch) (st wt:Int) (y z:Ha) (v1 v2:Value) (lo:Nat) (w:World) (h1:ag w lo v1 c.cells) (h2:ai w lo v2 c.words) (hc0:0≤y.cell) (hc1:y.cell<c.cells.length) (ht:bn c y.cell y.seen st wt=false) :
  Calls Tryz.prog 265 #[.agg (af c v1 v2),.int .i64 st,.int .i64 wt,.agg (aa y),.agg (aa z)] w fun r w'=>cz w w' lo v1 v2 (aY c y.cell y.seen st wt,z,true) r:=(oW c st wt y z v1 v2 lo w h1 h2 hc0 hc1).2 ht
theorem kM {c:Ch} {i f t v:Int} (h:bn c i f t v=false):aY c i f t v=c:=by
 have e:lX (cellAt c i) f t v=cellAt c i:=by
  have h2:jT (cellAt c i).s (cellAt c i).e (cellAt c i).t f t v=false:=h
  simp [lX,sS,sU,h2]
 unfold aY setAt
 rw [e]
 unfold cellAt
 have:c.cells.set i.toNat (c.cells.getD i.toNat ⟨0,0,0⟩)=c.cells:=by
  apply List.ext_getElem?
  intro n
  rw [List.getElem?_set]
  by_cases hn:i.toNat=n
  ·subst hn
   by_cases hl:i.toNat<c.cells.length
   ·simp [hl]
   ·simp [hl,Nat.le_of_not_lt hl]
  ·simp [hn]
 rw [this]
theorem nE (c:Ch) (st wt:Int) (y z:Ha) (v1 v2:Value) (lo:Nat) (w:World) (h1:ag w lo v1 c.cells) (h2:ai w lo v2 c.words) (hc0:0≤y.cell) (hc1:y.cell<c.cells.length) :
  Calls Tryz.prog 265 #[.agg (af c v1 v2),.int .i64 st,.int .i64 wt,.agg (aa y),.agg (aa z)] w fun r w'=>cz w w' lo v1 v2 (sH c st wt y z) r:=by
 cases ht:bn c y.cell y.seen st wt with
 | true =>
  rw [show sH c st wt y z=(aY c y.cell y.seen st wt,y,true) by simp [sH,ht]]
  exact yD c st wt y z v1 v2 lo w h1 h2 hc0 hc1 ht
 | false =>
  have:=yE c st wt y z v1 v2 lo w h1 h2 hc0 hc1 ht
  rw [kM ht] at this
  rw [show sH c st wt y z=(c,z,true) by simp [sH,ht]]
  exact this
end
section
open Go.RowKit
attribute [local simp] aC
attribute [local go_sem ↓] aB aU aL bB aM bC aG aN au aF
theorem rV (c:Ch) (h:Ha) (v1 v2:Value) (lo:Nat) (w:World) (h1:ag w lo v1 c.cells) (h2:ai w lo v2 c.words) (hc0:0≤h.cell) (hc1:h.cell<c.cells.length) :
    (∀ (hn:(cellAt c h.cell).s=0),Calls Tryz.prog 262 #[.agg (af c v1 v2),.agg (aa h)] w fun r w'=>cz w w' lo v1 v2 ((c,{ dK h (cellAt c h.cell) with pos:=11 },true)) r) ∧
    (∀ (hn:(cellAt c h.cell).s=1),Calls Tryz.prog 262 #[.agg (af c v1 v2),.agg (aa h)] w fun r w'=>cz w w' lo v1 v2 ((c,{ dK h (cellAt c h.cell) with pos:=11 },true)) r):=by
  constructor
  case' left =>
    intro hn
    have mA:Hid (0=0):=rfl
  case' right =>
    intro hn
    have mB:Hid (0=0):=rfl
  all_goals
    obtain ⟨i,hci⟩:∃ i:Nat,h.cell=(i:Int):=⟨h.cell.toNat,by omega⟩
    have hi:i<c.cells.length:=by omega
    have hi0:(0:Int)≤(i:Int):=by omega
    have hi1:(i:Int)<(c.cells.length:Int):=by omega
    have hne:=h1.ne h2
    obtain ⟨a2,q2,rfl,_⟩:=h2.seg
    obtain ⟨g,q1,rfl,hlo1,hlt,hcell,hfr⟩:=h1.open1 hi
    have O1:=Lib.hid h1
    have O2:=Lib.hid h2
    have jI:g<w.heap.size+1:=by omega
    have jJ:g<w.heap.size+1+1:=by omega
    have jK:g<w.heap.size+1+1+1:=by omega
    have vH:g≠w.heap.size:=by omega
    have vI:g≠w.heap.size+1:=by omega
    have vJ:g≠w.heap.size+1+1:=by omega
    have vK:g≠w.heap.size+1+1+1:=by omega
    have xC:w.heap.size≠g:=by omega
    have xD:w.heap.size+1≠g:=by omega
    have xE:w.heap.size+1+1≠g:=by omega
    have xG:w.heap.size+1+1+1≠g:=by omega
    have hx:Hid (cellAt c h.cell=c.cells.getD i ⟨0,0,0⟩):=by simp [cellAt,Hid,hci]
    have c0:=hcell 0 tO
    have c1:=hcell 1 tO
    have c2:=hcell 2 tO
    simp only [C3.val,Nat.add_zero] at c0 c1 c2
    have ex:=hx.out
    rw [ex] at hn ⊢
    generalize c.cells.getD i ⟨0,0,0⟩=x at *
    obtain ⟨s,e,t⟩:=x
    simp only at hn c0 c1 c2
    subst hn
    clear hx ex hcell h1 h2
    have o1:=O1.out
    have o2:=O2.out
    go_enter Tryz.func262,Tryz.ntmps262
    first
    | (replace mA:=mA;go_wp2_with fail;refine ax w zB fun bb=>?_;refine (jm h 0 e t _).mono ?_;rintro _ w1 ⟨rfl,ah⟩;obtain ⟨aW,ay,zz⟩:=wU bb ah (b:=w.heap.size);(try simp at ay);(try simp [go_sem] at zz);replace bX:=jL zz;clear zz;have dG:=aW;clear ah bb)
    | (replace mB:=mB;go_wp2_with fail;refine ax w zB fun bb=>?_;refine (jm h 1 e t _).mono ?_;rintro _ w1 ⟨rfl,ah⟩;obtain ⟨aW,ay,zz⟩:=wU bb ah (b:=w.heap.size);(try simp at ay);(first|simp [go_sem,bX] at zz|simp [go_sem] at zz|skip);replace bX:=jL zz;clear zz;have dG:=aW;clear ah bb)
    have p1:=own_below o1 dG
    have p2:=own_below o2 dG
    obtain ⟨k0,k1,k2,k3⟩:=kZ (a:=w.heap.size) (b:=w1.heap.size)
    have k4:w.heap.size+1+1+1+1<w1.heap.size:=by omega
    have j0:w.heap.size<w1.heap.size+1:=by omega
    have j1:w.heap.size+1<w1.heap.size+1:=by omega
    have j2:w.heap.size+1+1<w1.heap.size+1:=by omega
    have j3:w.heap.size+1+1+1<w1.heap.size+1:=by omega
    have j4:w.heap.size+1+1+1+1<w1.heap.size+1:=by omega
    go_wp2_with fail
    first
    | (replace mA:=mA
       go_region_held3 (fun w'=>hp w' w.heap.size=some (.cells (af c (.slice (some ⟨g,0,none⟩) c.cells.length q1) (.slice a2 c.words.length q2)) 31)∧hp w' w1.heap.size=some (.cells (aa { h with cell:=(i:Int),seen:=0,wait:=t,out:=e }) 49))
         (first|(simp [*,go_sem]))
         (first|((go_at_call 247;refine ax w zB fun bb=>?_;refine ax w1 zB fun bk=>?_;refine (cZ _ _ _).mono ?_;rintro _ w2 ⟨rfl,hbw2⟩;have dE:=bT bb hbw2;have bu:=hbw2.size;(try simp at bu);have zz:=And.intro (hQ hbw2 (b:=w1.heap.size)) <| And.intro (hQ hbw2 (b:=w.heap.size+1+1+1)) <| And.intro (hQ hbw2 (b:=w.heap.size+1+1)) <| And.intro (hQ hbw2 (b:=w.heap.size+1)) <| hQ hbw2 (b:=w.heap.size);(first|simp [go_sem,bX,k0,k1,k2,k3,k4] at zz|simp [go_sem] at zz|skip);replace bX:=jL zz;clear zz;have eu:=bT bk hbw2;clear hbw2 bb bk);have r1:=own_below p1 eu;have r2:=own_below p2 eu)))
    | (replace mB:=mB
       go_region_held3 (fun w'=>hp w' w.heap.size=some (.cells (af c (.slice (some ⟨g,0,none⟩) c.cells.length q1) (.slice a2 c.words.length q2)) 31)∧hp w' w1.heap.size=some (.cells (aa { h with cell:=(i:Int),seen:=1,wait:=t,out:=e }) 49))
         (first|(simp [*,go_sem]))
         (first|((go_at_call 247;refine ax w zB fun bb=>?_;refine ax w1 zB fun bk=>?_;refine (cZ _ _ _).mono ?_;rintro _ w2 ⟨rfl,hbw2⟩;have dE:=bT bb hbw2;have bu:=hbw2.size;(try simp at bu);have zz:=And.intro (hQ hbw2 (b:=w1.heap.size)) <| And.intro (hQ hbw2 (b:=w.heap.size+1+1+1)) <| And.intro (hQ hbw2 (b:=w.heap.size+1+1)) <| And.intro (hQ hbw2 (b:=w.heap.size+1)) <| hQ hbw2 (b:=w.heap.size);(first|simp [go_sem,bX,k0,k1,k2,k3,k4] at zz|simp [go_sem] at zz|skip);replace bX:=jL zz;clear zz;have eu:=bT bk hbw2;clear hbw2 bb bk);have r1:=own_below p1 eu;have r2:=own_below p2 eu)))
    go_wp2
    first
    | (replace mA:=mA;refine rE Tryz.results262 rfl (az c (.slice (some ⟨g,0,none⟩) c.cells.length q1) (.slice a2 c.words.length q2) tZ) rfl (aj { dK h ⟨0,e,t⟩ with pos:=11 } (by simp [go_sem, *] <;> first|rfl|simp [dK,hci])) ⟨⟨_,_,rfl,?_,?_,ak _ _,ak _ _⟩,dx zB⟩)
    | (replace mB:=mB;refine rE Tryz.results262 rfl (az c (.slice (some ⟨g,0,none⟩) c.cells.length q1) (.slice a2 c.words.length q2) tZ) rfl (aj { dK h ⟨1,e,t⟩ with pos:=11 } (by simp [go_sem, *] <;> first|rfl|simp [dK,hci])) ⟨⟨_,_,rfl,?_,?_,ak _ _,ak _ _⟩,dx zB⟩)
    · exact zO r1 o1
    · exact zO r2 o2
theorem D6 (c:Ch) (h:Ha) (v1 v2:Value) (lo:Nat) (w:World) (h1:ag w lo v1 c.cells) (h2:ai w lo v2 c.words) (hc0:0≤h.cell) (hc1:h.cell<c.cells.length) (hn:(cellAt c h.cell).s=0) :
    Calls Tryz.prog 262 #[.agg (af c v1 v2),.agg (aa h)] w fun r w'=>cz w w' lo v1 v2 ((c,{ dK h (cellAt c h.cell) with pos:=11 },true)) r:=(rV c h v1 v2 lo w h1 h2 hc0 hc1).1 hn
theorem D7 (c:Ch) (h:Ha) (v1 v2:Value) (lo:Nat) (w:World) (h1:ag w lo v1 c.cells) (h2:ai w lo v2 c.words) (hc0:0≤h.cell) (hc1:h.cell<c.cells.length) (hn:(cellAt c h.cell).s=1) :
    Calls Tryz.prog 262 #[.agg (af c v1 v2),.agg (aa h)] w fun r w'=>cz w w' lo v1 v2 ((c,{ dK h (cellAt c h.cell) with pos:=11 },true)) r:=(rV c h v1 v2 lo w h1 h2 hc0 hc1).2 hn
theorem rW (c:Ch) (h:Ha) (v1 v2:Value) (lo:Nat) (w:World) (h1:ag w lo v1 c.cells) (h2:ai w lo v2 c.words) (hc0:0≤h.cell) (hc1:h.cell<c.cells.length) :
    (∀ (hn:(cellAt c h.cell).s=2),Calls Tryz.prog 262 #[.agg (af c v1 v2),.agg (aa h)] w fun r w'=>cz w w' lo v1 v2 ((c,{ dK h (cellAt c h.cell) with pos:=12 },true)) r) ∧
    (∀ (hn:(cellAt c h.cell).s=3),Calls Tryz.prog 262 #[.agg (af c v1 v2),.agg (aa h)] w fun r w'=>cz w w' lo v1 v2 ((c,{ dK h (cellAt c h.cell) with pos:=12 },true)) r):=by
  constructor
  case' left =>
    intro hn
    have mA:Hid (0=0):=rfl
  case' right =>
    intro hn
    have mB:Hid (0=0):=rfl
  all_goals
    obtain ⟨i,hci⟩:∃ i:Nat,h.cell=(i:Int):=⟨h.cell.toNat,by omega⟩
    have hi:i<c.cells.length:=by omega
    have hi0:(0:Int)≤(i:Int):=by omega
    have hi1:(i:Int)<(c.cells.length:Int):=by omega
    have hne:=h1.ne h2
    obtain ⟨a2,q2,rfl,_⟩:=h2.seg
    obtain ⟨g,q1,rfl,hlo1,hlt,hcell,hfr⟩:=h1.open1 hi
    have O1:=Lib.hid h1
    have O2:=Lib.hid h2
    have jI:g<w.heap.size+1:=by omega
    have jJ:g<w.heap.size+1+1:=by omega
    have jK:g<w.heap.size+1+1+1:=by omega
    have vH:g≠w.heap.size:=by omega
    have vI:g≠w.heap.size+1:=by omega
    have vJ:g≠w.heap.size+1+1:=by omega
    have vK:g≠w.heap.size+1+1+1:=by omega
    have xC:w.heap.size≠g:=by omega
    have xD:w.heap.size+1≠g:=by omega
    have xE:w.heap.size+1+1≠g:=by omega
    have xG:w.heap.size+1+1+1≠g:=by omega
    have hx:Hid (cellAt c h.cell=c.cells.getD i ⟨0,0,0⟩):=by simp [cellAt,Hid,hci]
    have c0:=hcell 0 tO
    have c1:=hcell 1 tO
    have c2:=hcell 2 tO
    simp only [C3.val,Nat.add_zero] at c0 c1 c2
    have ex:=hx.out
    rw [ex] at hn ⊢
    generalize c.cells.getD i ⟨0,0,0⟩=x at *
    obtain ⟨s,e,t⟩:=x
    simp only at hn c0 c1 c2
    subst hn
    clear hx ex hcell h1 h2
    have o1:=O1.out
    have o2:=O2.out
    go_enter Tryz.func262,Tryz.ntmps262
    first
    | (replace mA:=mA;go_wp2_with fail;refine ax w zB fun bb=>?_;refine (jm h 2 e t _).mono ?_;rintro _ w1 ⟨rfl,ah⟩;obtain ⟨aW,ay,zz⟩:=wU bb ah (b:=w.heap.size);(try simp at ay);(try simp [go_sem] at zz);replace bX:=jL zz;clear zz;have dG:=aW;clear ah bb)
    | (replace mB:=mB;go_wp2_with fail;refine ax w zB fun bb=>?_;refine (jm h 3 e t _).mono ?_;rintro _ w1 ⟨rfl,ah⟩;obtain ⟨aW,ay,zz⟩:=wU bb ah (b:=w.heap.size);(try simp at ay);(first|simp [go_sem,bX] at zz|simp [go_sem] at zz|skip);replace bX:=jL zz;clear zz;have dG:=aW;clear ah bb)
    have p1:=own_below o1 dG
    have p2:=own_below o2 dG
    obtain ⟨k0,k1,k2,k3⟩:=kZ (a:=w.heap.size) (b:=w1.heap.size)
    have k4:w.heap.size+1+1+1+1<w1.heap.size:=by omega
    have j0:w.heap.size<w1.heap.size+1:=by omega
    have j1:w.heap.size+1<w1.heap.size+1:=by omega
    have j2:w.heap.size+1+1<w1.heap.size+1:=by omega
    have j3:w.heap.size+1+1+1<w1.heap.size+1:=by omega
    have j4:w.heap.size+1+1+1+1<w1.heap.size+1:=by omega
    go_wp2_with fail
    first
    | (replace mA:=mA
       go_region_held3 (fun w'=>hp w' w.heap.size=some (.cells (af c (.slice (some ⟨g,0,none⟩) c.cells.length q1) (.slice a2 c.words.length q2)) 31)∧hp w' w1.heap.size=some (.cells (aa { h with cell:=(i:Int),seen:=2,wait:=t,out:=e }) 49))
         (first|(simp [*,go_sem]))
         (first|((go_at_call 247;refine ax w zB fun bb=>?_;refine ax w1 zB fun bk=>?_;refine (cZ _ _ _).mono ?_;rintro _ w2 ⟨rfl,hbw2⟩;have dE:=bT bb hbw2;have bu:=hbw2.size;(try simp at bu);have zz:=And.intro (hQ hbw2 (b:=w1.heap.size)) <| And.intro (hQ hbw2 (b:=w.heap.size+1+1+1)) <| And.intro (hQ hbw2 (b:=w.heap.size+1+1)) <| And.intro (hQ hbw2 (b:=w.heap.size+1)) <| hQ hbw2 (b:=w.heap.size);(first|simp [go_sem,bX,k0,k1,k2,k3,k4] at zz|simp [go_sem] at zz|skip);replace bX:=jL zz;clear zz;have eu:=bT bk hbw2;clear hbw2 bb bk);have r1:=own_below p1 eu;have r2:=own_below p2 eu)))
    | (replace mB:=mB
       go_region_held3 (fun w'=>hp w' w.heap.size=some (.cells (af c (.slice (some ⟨g,0,none⟩) c.cells.length q1) (.slice a2 c.words.length q2)) 31)∧hp w' w1.heap.size=some (.cells (aa { h with cell:=(i:Int),seen:=3,wait:=t,out:=e }) 49))
         (first|(simp [*,go_sem]))
         (first|((go_at_call 247;refine ax w zB fun bb=>?_;refine ax w1 zB fun bk=>?_;refine (cZ _ _ _).mono ?_;rintro _ w2 ⟨rfl,hbw2⟩;have dE:=bT bb hbw2;have bu:=hbw2.size;(try simp at bu);have zz:=And.intro (hQ hbw2 (b:=w1.heap.size)) <| And.intro (hQ hbw2 (b:=w.heap.size+1+1+1)) <| And.intro (hQ hbw2 (b:=w.heap.size+1+1)) <| And.intro (hQ hbw2 (b:=w.heap.size+1)) <| hQ hbw2 (b:=w.heap.size);(first|simp [go_sem,bX,k0,k1,k2,k3,k4] at zz|simp [go_sem] at zz|skip);replace bX:=jL zz;clear zz;have eu:=bT bk hbw2;clear hbw2 bb bk);have r1:=own_below p1 eu;have r2:=own_below p2 eu)))
    go_wp2
    first
    | (replace mA:=mA;refine rE Tryz.results262 rfl (az c (.slice (some ⟨g,0,none⟩) c.cells.length q1) (.slice a2 c.words.length q2) tZ) rfl (aj { dK h ⟨2,e,t⟩ with pos:=12 } (by simp [go_sem, *] <;> first|rfl|simp [dK,hci])) ⟨⟨_,_,rfl,?_,?_,ak _ _,ak _ _⟩,dx zB⟩)
    | (replace mB:=mB;refine rE Tryz.results262 rfl (az c (.slice (some ⟨g,0,none⟩) c.cells.length q1) (.slice a2 c.words.length q2) tZ) rfl (aj { dK h ⟨3,e,t⟩ with pos:=12 } (by simp [go_sem, *] <;> first|rfl|simp [dK,hci])) ⟨⟨_,_,rfl,?_,?_,ak _ _,ak _ _⟩,dx zB⟩)
    · exact zO r1 o1
    · exact zO r2 o2
theorem D8 (c:Ch) (h:Ha) (v1 v2:Value) (lo:Nat) (w:World) (h1:ag w lo v1 c.cells) (h2:ai w lo v2 c.words) (hc0:0≤h.cell) (hc1:h.cell<c.cells.length) (hn:(cellAt c h.cell).s=2) :
    Calls Tryz.prog 262 #[.agg (af c v1 v2),.agg (aa h)] w fun r w'=>cz w w' lo v1 v2 ((c,{ dK h (cellAt c h.cell) with pos:=12 },true)) r:=(rW c h v1 v2 lo w h1 h2 hc0 hc1).1 hn
theorem D9 (c:Ch) (h:Ha) (v1 v2:Value) (lo:Nat) (w:World) (h1:ag w lo v1 c.cells) (h2:ai w lo v2 c.words) (hc0:0≤h.cell) (hc1:h.cell<c.cells.length) (hn:(cellAt c h.cell).s=3) :
    Calls Tryz.prog 262 #[.agg (af c v1 v2),.agg (aa h)] w fun r w'=>cz w w' lo v1 v2 ((c,{ dK h (cellAt c h.cell) with pos:=12 },true)) r:=(rW c h v1 v2 lo w h1 h2 hc0 hc1).2 hn
theorem DC (c:Ch) (h:Ha) (v1 v2:Value) (lo:Nat) (w:World) (h1:ag w lo v1 c.cells) (h2:ai w lo v2 c.words) (hc0:0≤h.cell) (hc1:h.cell<c.cells.length) (hn:(cellAt c h.cell).s=9) (hk:dO h.code h.elem=true) :
    cu 262 c h v1 v2 lo w ((c,anew h,true)):=by
  obtain ⟨i,hci⟩:∃ i:Nat,h.cell=(i:Int):=⟨h.cell.toNat,by omega⟩
  have hi:i<c.cells.length:=by omega
  have hi0:(0:Int)≤(i:Int):=by omega
  have hi1:(i:Int)<(c.cells.length:Int):=by omega
  have hne:=h1.ne h2
  obtain ⟨a2,q2,rfl,_⟩:=h2.seg
  obtain ⟨g,q1,rfl,hlo1,hlt,hcell,hfr⟩:=h1.open1 hi
  have O1:=Lib.hid h1
  have O2:=Lib.hid h2
  have jI:g<w.heap.size+1:=by omega
  have jJ:g<w.heap.size+1+1:=by omega
  have jK:g<w.heap.size+1+1+1:=by omega
  have vH:g≠w.heap.size:=by omega
  have vI:g≠w.heap.size+1:=by omega
  have vJ:g≠w.heap.size+1+1:=by omega
  have vK:g≠w.heap.size+1+1+1:=by omega
  have xC:w.heap.size≠g:=by omega
  have xD:w.heap.size+1≠g:=by omega
  have xE:w.heap.size+1+1≠g:=by omega
  have xG:w.heap.size+1+1+1≠g:=by omega
  have hx:Hid (cellAt c h.cell=c.cells.getD i ⟨0,0,0⟩):=by simp [cellAt,Hid,hci]
  have c0:=hcell 0 tO
  have c1:=hcell 1 tO
  have c2:=hcell 2 tO
  simp only [C3.val,Nat.add_zero] at c0 c1 c2
  have ex:=hx.out
  rw [ex] at hn
  generalize c.cells.getD i ⟨0,0,0⟩=x at *
  obtain ⟨s,e,t⟩:=x
  simp only at hn c0 c1 c2
  subst hn
  clear hx ex hcell h1 h2
  obtain ⟨y0,hk0⟩:∃ y0,anew h=y0:=⟨_,rfl⟩
  have AN:=Lib.hid fun W=>oq h hk W
  rw [hk0] at AN
  rw [hk0]
  clear hk0 hk
  have o1:=O1.out
  have o2:=O2.out
  go_enter Tryz.func262,Tryz.ntmps262
  go_wp2_with fail;refine ax w zB fun bb=>?_;refine (jm h 9 e t _).mono ?_;rintro _ w1 ⟨rfl,ah⟩;obtain ⟨aW,ay,zz⟩:=wU bb ah (b:=w.heap.size);(try simp at ay);(try simp [go_sem] at zz);replace bX:=jL zz;clear zz;have dG:=aW;clear ah bb
  have p1:=own_below o1 dG
  have p2:=own_below o2 dG
  obtain ⟨k0,k1,k2,k3⟩:=kZ (a:=w.heap.size) (b:=w1.heap.size)
  have k4:w.heap.size+1+1+1+1<w1.heap.size:=by omega
  have j0:w.heap.size<w1.heap.size+1:=by omega
  have j1:w.heap.size+1<w1.heap.size+1:=by omega
  have j2:w.heap.size+1+1<w1.heap.size+1:=by omega
  have j3:w.heap.size+1+1+1<w1.heap.size+1:=by omega
  have j4:w.heap.size+1+1+1+1<w1.heap.size+1:=by omega
  go_wp2_with fail
  go_region_held3 (fun w'=>hp w' w.heap.size=some (.cells (af c (.slice (some ⟨g,0,none⟩) c.cells.length q1) (.slice a2 c.words.length q2)) 31)∧hp w' (w.heap.size+1)=some (.cells (aa h) 49))
    (first|(simp [*,go_sem]))
    (first|((go_at_call 250;refine ax w zB fun bb=>?_;refine ax w1 zB fun bk=>?_;refine (AN.out _).mono ?_;rintro _ w2 ⟨rfl,hbw2⟩;have dE:=bT bb hbw2;have bu:=hbw2.size;(try simp at bu);have zz:=And.intro (hQ hbw2 (b:=w1.heap.size)) <| And.intro (hQ hbw2 (b:=w.heap.size+1+1+1)) <| And.intro (hQ hbw2 (b:=w.heap.size+1+1)) <| And.intro (hQ hbw2 (b:=w.heap.size+1)) <| hQ hbw2 (b:=w.heap.size);(first|simp [go_sem,bX,k0,k1,k2,k3,k4] at zz|simp [go_sem] at zz|skip);replace bX:=jL zz;clear zz;have eu:=bT bk hbw2;clear hbw2 bb bk);have r1:=own_below p1 eu;have r2:=own_below p2 eu))
  go_wp2
  refine rE Tryz.results262 rfl (az c (.slice (some ⟨g,0,none⟩) c.cells.length q1) (.slice a2 c.words.length q2) tZ) rfl (aj y0 (by simp [go_sem, *] <;> first|rfl|simp [dK,hci])) ⟨⟨_,_,rfl,?_,?_,ak _ _,ak _ _⟩,dx zB⟩
  · exact zO r1 o1
  · exact zO r2 o2
theorem DD (c:Ch) (h:Ha) (v1 v2:Value) (lo:Nat) (w:World) (h1:ag w lo v1 c.cells) (h2:ai w lo v2 c.words) (hc0:0≤h.cell) (hc1:h.cell<c.cells.length) (hn:(cellAt c h.cell).s=6) :
    cu 262 c h v1 v2 lo w ((c,h,false)):=by
  obtain ⟨i,hci⟩:∃ i:Nat,h.cell=(i:Int):=⟨h.cell.toNat,by omega⟩
  have hi:i<c.cells.length:=by omega
  have hi0:(0:Int)≤(i:Int):=by omega
  have hi1:(i:Int)<(c.cells.length:Int):=by omega
  have hne:=h1.ne h2
  obtain ⟨a2,q2,rfl,_⟩:=h2.seg
  obtain ⟨g,q1,rfl,hlo1,hlt,hcell,hfr⟩:=h1.open1 hi
  have O1:=Lib.hid h1
  have O2:=Lib.hid h2
  have jI:g<w.heap.size+1:=by omega
  have jJ:g<w.heap.size+1+1:=by omega
  have jK:g<w.heap.size+1+1+1:=by omega
  have vH:g≠w.heap.size:=by omega
  have vI:g≠w.heap.size+1:=by omega
  have vJ:g≠w.heap.size+1+1:=by omega
  have vK:g≠w.heap.size+1+1+1:=by omega
  have xC:w.heap.size≠g:=by omega
  have xD:w.heap.size+1≠g:=by omega
  have xE:w.heap.size+1+1≠g:=by omega
  have xG:w.heap.size+1+1+1≠g:=by omega
  have hx:Hid (cellAt c h.cell=c.cells.getD i ⟨0,0,0⟩):=by simp [cellAt,Hid,hci]
  have c0:=hcell 0 tO
  have c1:=hcell 1 tO
  have c2:=hcell 2 tO
  simp only [C3.val,Nat.add_zero] at c0 c1 c2
  have ex:=hx.out
  rw [ex] at hn
  generalize c.cells.getD i ⟨0,0,0⟩=x at *
  obtain ⟨s,e,t⟩:=x
  simp only at hn c0 c1 c2
  subst hn
  clear hx ex hcell h1 h2
  have o1:=O1.out
  have o2:=O2.out
  go_enter Tryz.func262,Tryz.ntmps262
  go_wp2_with fail;refine ax w zB fun bb=>?_;refine (jm h 6 e t _).mono ?_;rintro _ w1 ⟨rfl,ah⟩;obtain ⟨aW,ay,zz⟩:=wU bb ah (b:=w.heap.size);(try simp at ay);(try simp [go_sem] at zz);replace bX:=jL zz;clear zz;have dG:=aW;clear ah bb
  have p1:=own_below o1 dG
  have p2:=own_below o2 dG
  obtain ⟨k0,k1,k2,k3⟩:=kZ (a:=w.heap.size) (b:=w1.heap.size)
  have k4:w.heap.size+1+1+1+1<w1.heap.size:=by omega
  have j0:w.heap.size<w1.heap.size+1:=by omega
  have j1:w.heap.size+1<w1.heap.size+1:=by omega
  have j2:w.heap.size+1+1<w1.heap.size+1:=by omega
  have j3:w.heap.size+1+1+1<w1.heap.size+1:=by omega
  have j4:w.heap.size+1+1+1+1<w1.heap.size+1:=by omega
  have r1:=p1
  have r2:=p2
  go_wp2_with fail
  go_region
  go_wp2
  refine rE Tryz.results262 rfl (az c (.slice (some ⟨g,0,none⟩) c.cells.length q1) (.slice a2 c.words.length q2) tZ) rfl (aj h (by simp [go_sem, *] <;> first|rfl|simp [dK,hci])) ⟨⟨_,_,rfl,?_,?_,ak _ _,ak _ _⟩,dx zB⟩
  · exact zO r1 o1
  · exact zO r2 o2
theorem Bl (c:Ch) (h:Ha) (v1 v2:Value) (lo:Nat) (w:World) (h1:ag w lo v1 c.cells) (h2:ai w lo v2 c.words) (hc0:0≤h.cell) (hc1:h.cell<c.cells.length) (n0:((cellAt c h.cell).s == 0)=false) (n1:((cellAt c h.cell).s == 1)=false) (n2:((cellAt c h.cell).s == 2)=false) (n3:((cellAt c h.cell).s == 3)=false) (n9:((cellAt c h.cell).s == 9)=false) (n6:((cellAt c h.cell).s == 6)=false) :
    cu 262 c h v1 v2 lo w (nothing):=by
  have b1:=jF h1
  have b2:=jF h2
  have T:=Lib.hid fun W=>fw W lo v1 v2
  obtain ⟨i,hci⟩:∃ i:Nat,h.cell=(i:Int):=⟨h.cell.toNat,by omega⟩
  have hi:i<c.cells.length:=by omega
  have hi0:(0:Int)≤(i:Int):=by omega
  have hi1:(i:Int)<(c.cells.length:Int):=by omega
  have hne:=h1.ne h2
  obtain ⟨a2,q2,rfl,_⟩:=h2.seg
  obtain ⟨g,q1,rfl,hlo1,hlt,hcell,hfr⟩:=h1.open1 hi
  have O1:=Lib.hid h1
  have O2:=Lib.hid h2
  have jI:g<w.heap.size+1:=by omega
  have jJ:g<w.heap.size+1+1:=by omega
  have jK:g<w.heap.size+1+1+1:=by omega
  have vH:g≠w.heap.size:=by omega
  have vI:g≠w.heap.size+1:=by omega
  have vJ:g≠w.heap.size+1+1:=by omega
  have vK:g≠w.heap.size+1+1+1:=by omega
  have xC:w.heap.size≠g:=by omega
  have xD:w.heap.size+1≠g:=by omega
  have xE:w.heap.size+1+1≠g:=by omega
  have xG:w.heap.size+1+1+1≠g:=by omega
  have hx:Hid (cellAt c h.cell=c.cells.getD i ⟨0,0,0⟩):=by simp [cellAt,Hid,hci]
  have c0:=hcell 0 tO
  have c1:=hcell 1 tO
  have c2:=hcell 2 tO
  simp only [C3.val,Nat.add_zero] at c0 c1 c2
  have m1:∀ j,w.heap.size≤j→some j≠(Value.slice (some ⟨g,0,none⟩) c.cells.length q1).ownBlock:=fun j hj e=>by have:=b1 _ e.symm;omega
  have m2:∀ j,w.heap.size≤j→some j≠(Value.slice a2 c.words.length q2).ownBlock:=fun j hj e=>by have:=b2 _ e.symm;omega
  have m10:=m1 (w.heap.size) tO
  have m20:=m2 (w.heap.size) tO
  have m11:=m1 (w.heap.size+1) tO
  have m21:=m2 (w.heap.size+1) tO
  have m12:=m1 (w.heap.size+1+1) tO
  have m22:=m2 (w.heap.size+1+1) tO
  have m13:=m1 (w.heap.size+1+1+1) tO
  have m23:=m2 (w.heap.size+1+1+1) tO
  have ex:=hx.out
  rw [ex] at n0 n1 n2 n3 n9 n6
  generalize c.cells.getD i ⟨0,0,0⟩=x0 at *
  obtain ⟨ss,e,t⟩:=x0
  simp only at n0 n1 n2 n3 n9 n6 c0 c1 c2
  generalize nothing=x at *
  clear hcell hx h1 h2 hc0 hc1 ex
  have o1:=O1.out
  have o2:=O2.out
  go_enter Tryz.func262,Tryz.ntmps262
  go_wp2_with fail;refine ax w zB fun bb=>?_;refine (jm h ss e t _).mono ?_;rintro _ w1 ⟨rfl,ah⟩;obtain ⟨aW,ay,zz⟩:=wU bb ah (b:=w.heap.size);(try simp at ay);(try simp [go_sem] at zz);replace bX:=jL zz;clear zz;have dG:=aW;clear ah bb
  go_wp2_with fail
  refine (T.out _).mono ?_
  rintro _ w3 ⟨⟨y1,y2,rfl,aV,aX,dL,dI⟩,aO⟩
  have hO3:ik (Value.slice (some ⟨g,0,none⟩) c.cells.length q1).ownBlock (Value.slice a2 c.words.length q2).ownBlock w w3:=fu (dx zB) (dx aO)
  have df:=aO.size;(try simp at df);have zz:=zT aO (b:=w.heap.size);(first|simp [go_sem,bX] at zz|simp [go_sem] at zz|skip);replace bX:=dF zz;clear zz aO
  obtain ⟨⟨aI,aJ⟩,dP,dQ⟩:=sO (w:=w) (w.heap.size+1+1+1+1) dL dI b1 b2;obtain ⟨ya,yp,rfl,_⟩:=aV.seg;obtain ⟨yb,yq,rfl,_⟩:=aX.seg
  go_wp2
  refine rE Tryz.results262 rfl (az x.1 (.slice ya x.1.cells.length yp) (.slice yb x.1.words.length yq) tY) rfl (aj x.2.1 tY) ⟨⟨_,_,rfl,?_,?_,dP,dQ⟩,by exact zN⟩
  · exact zP aV aV aI
  · exact zP aX aX aJ
end
section
open Go.RowKit
attribute [local simp] aC
attribute [local go_sem ↓] aB aU aL bB aM bC aG aN au aF
theorem DF (c:Ch) (v1 v2:Value) (lo:Nat) (L:List Int) (m:Int) (w:World) (h1:ag w lo v1 c.cells) (h2:ai w lo v2 c.words) (hc:aK c=true) (hf:¬ 80≤c.words.length) (hL:L=c.words ++ [0]) (hm:m=(c.words.length:Int)+1) :
    Calls Tryz.prog 257 #[.agg (af c v1 v2)] w fun r w'=>(∃ y1 y2,r=.returned (.tuple #[.agg (af c y1 y2),.int .i64 m])∧ag w' w.heap.size y1 c.cells∧ai w' w.heap.size y2 L)∧Below w.heap.size w w':=by
  subst hL hm
  exact G6 c v1 v2 lo w h1 h2 hc hf
theorem Bo (c:Ch) (st:Int) (y z:Ha) (v1 v2:Value) (lo:Nat) (w:World) (h1:ag w lo v1 c.cells) (h2:ai w lo v2 c.words) (hc:aK c=true) (hf:80≤c.words.length) :
    Calls Tryz.prog 255 #[.agg (af c v1 v2),.int .i64 st,.agg (aa y),.agg (aa z)] w fun r w'=>StepB w w' lo v1 v2 ((c,aP 4 0,true)) r:=by
  obtain ⟨a1,q1,a2,q2,rfl,rfl,O1,O2,b1,b2⟩:=ql h1 h2
  clear h1 h2
  have o1:=O1.out
  have o2:=O2.out
  go_enter Tryz.func255,Tryz.ntmps255
  go_wp2_with fail;refine ax w zB fun bb=>?_;refine (G5 c _ _ lo _ (zO o1 o1) (zO o2 o2) hc hf).mono ?_;rintro _ w1 ⟨⟨y1,y2,rfl,aV,aX⟩,ah⟩;obtain ⟨aW,ay,zz⟩:=wU bb ah (b:=w.heap.size);(try simp at ay);(try simp [go_sem] at zz);replace bX:=jL zz;clear zz;have dG:=aW;clear ah bb
  obtain ⟨ya,yp,rfl,_⟩:=aV.seg
  obtain ⟨yb,yq,rfl,_⟩:=aX.seg
  obtain ⟨k0,k1,k2,k3⟩:=kZ (a:=w.heap.size) (b:=w1.heap.size)
  have k4:w.heap.size+1+1+1+1<w1.heap.size:=by omega
  go_wp2_with fail
  go_region_held3 (fun w'=>hp w' w.heap.size=some (.cells (af c (.slice a1 c.cells.length q1) (.slice a2 c.words.length q2)) 31)∧hp w' (w.heap.size+1)=some (.cells (aa y) 49))
    (first|(simp [*,go_sem]))
    (first|((go_at_call 48;refine ax w zB fun bb=>?_;refine (fT _ _ _).mono ?_;rintro _ w2 ⟨rfl,hbw2⟩;obtain ⟨dE,bu,zz⟩:=wU bb hbw2 (b:=w.heap.size);(try simp at bu);(first|simp [go_sem,bX,k0,k1,k2,k3,k4] at zz|simp [go_sem] at zz|skip);replace bX:=jL zz;clear zz;have eu:=dE;clear hbw2 bb);have p1:=own_below o1 eu;have p2:=own_below o2 eu))
  go_wp2
  refine rE Tryz.results255 rfl (az c (.slice a1 c.cells.length q1) (.slice a2 c.words.length q2) tZ) rfl (aj (aP 4 0) (by simp [go_sem, *] <;> first|rfl|simp [bM,anew,hci])) ⟨⟨_,_,rfl,?_,?_,ak _ _,ak _ _⟩,by exact zB⟩
  · exact zO p1 o1
  · exact zO p2 o2
theorem uA (c:Ch) (st:Int) (y z:Ha) (v1 v2:Value) (lo:Nat) (w:World) (h1:ag w lo v1 c.cells) (h2:ai w lo v2 c.words) (hc0:0≤y.cell) (hc1:y.cell<c.cells.length) (hc:aK c=true) (hlo:lo≤w.heap.size) (hf:¬ 80≤c.words.length) (m:Int) (hm:m=(c.words.length:Int)+1) :
    (∀ (ht:bn c y.cell y.seen st m=false),Calls Tryz.prog 255 #[.agg (af c v1 v2),.int .i64 st,.agg (aa y),.agg (aa z)] w fun r w'=>StepB w w' lo v1 v2 ((c,z,true)) r) ∧
    (∀ (ht:bn c y.cell y.seen st m=true),Calls Tryz.prog 255 #[.agg (af c v1 v2),.int .i64 st,.agg (aa y),.agg (aa z)] w fun r w'=>StepB w w' lo v1 v2 (({ aY c y.cell y.seen st m with words:=c.words ++ [0] },{ y with mine:=m },true)) r):=by
  constructor
  case' left =>
    intro ht
    have mA:Hid (0=0):=rfl
  case' right =>
    intro ht
    have mB:Hid (0=0):=rfl
  all_goals
    obtain ⟨i,hci⟩:∃ i:Nat,y.cell=(i:Int):=⟨y.cell.toNat,by omega⟩
    have hi:i<c.cells.length:=by omega
    have hm0:(m == 0)=false:=by simp;omega
    have hmz:¬ m=0:=by omega
    obtain ⟨L,hL⟩:∃ L,L=c.words ++ [0]:=⟨_,rfl⟩
    have VG:=Lib.hid fun v1 v2 lo W a1 a2=>DF c v1 v2 lo L m W a1 a2 hc hf hL hm
    have T:=Lib.hid fun (u1 u2:Value) (lo:Nat) (W:World) (x1:ag W lo u1 c.cells) (x2:ai W lo u2 L)=>jO { c with words:=L } i y.seen st m u1 u2 lo W x1 x2 hi
    first
    | (replace mA:=mA;have ht2:bn { c with words:=L } i y.seen st m=false:=by rw [← ht,hci];rfl)
    | (replace mB:=mB;have ht2:bn { c with words:=L } i y.seen st m=true:=by rw [← ht,hci];rfl)
    rw [ht2] at T
    first
    | replace mA:=mA
    | (replace mB:=mB
       have e0:({ aY c y.cell y.seen st m with words:=c.words ++ [0] },{ y with mine:=m },true)=(({ aY c i y.seen st m with words:=L },{ y with mine:=m },true):St):=by rw [hci,hL]
       rw [e0]
       clear e0)
    clear hm hf hL ht ht2 hc0 hc1
    have b1:=jF h1
    have b2:=jF h2
    have o1:=h1
    have o2:=h2
    obtain ⟨a1,q1,e1,_⟩:=h1.seg
    obtain ⟨a2,q2,e2,_⟩:=h2.seg
    subst e1 e2
    clear h1 h2
    go_enter Tryz.func255,Tryz.ntmps255
    go_wp2_with fail;refine ax w zB fun bb=>?_;refine (VG.out _ _ lo _ (zO o1 o1) (zO o2 o2)).mono ?_;rintro _ w1 ⟨⟨y1,y2,rfl,aV,aX⟩,ah⟩;obtain ⟨aW,ay,zz⟩:=wU bb ah (b:=w.heap.size);(try simp at ay);(try simp [go_sem] at zz);replace bX:=jL zz;clear zz;have dG:=aW;clear ah bb
    try simp at aV aX
    have dL:dW w (.slice a1 c.cells.length q1) y1:=fun j hj=>.inr (by have:=(aV.lt j hj).1;omega)
    have dI:dW w (.slice a2 c.words.length q2) y2:=fun j hj=>.inr (by have:=(aX.lt j hj).1;omega)
    have n0:some (w.heap.size)≠y1.ownBlock:=fun e=>by have:=(aV.lt _ e.symm).1;omega
    have n1:some (w.heap.size+1)≠y1.ownBlock:=fun e=>by have:=(aV.lt _ e.symm).1;omega
    have n2:some (w.heap.size+1+1)≠y1.ownBlock:=fun e=>by have:=(aV.lt _ e.symm).1;omega
    have n3:some (w.heap.size+1+1+1)≠y1.ownBlock:=fun e=>by have:=(aV.lt _ e.symm).1;omega
    have n4:some (w.heap.size+1+1+1+1)≠y1.ownBlock:=fun e=>by have:=(aV.lt _ e.symm).1;omega
    have n5:some w1.heap.size≠y1.ownBlock:=fun e=>by have:=(aV.lt _ e.symm).2;omega
    have TD:∀ k,y1.ownBlock=some k→w.heap.size≤k:=fun k hk=>by have:=(aV.lt k hk).1;omega
    obtain ⟨ya,yp,e1,_⟩:=aV.seg
    obtain ⟨yb,yq,e2,_⟩:=aX.seg
    subst e1 e2
    obtain ⟨k0,k1,k2,k3⟩:=kZ (a:=w.heap.size) (b:=w1.heap.size)
    have k4:w.heap.size+1+1+1+1<w1.heap.size:=by omega
    have r1:=av (lo':=lo) aV tO
    have r2:=av (lo':=lo) aX tO
    go_wp2_with fail;refine (T.out _ _ lo _ (zO r1 aV) (zO r2 aX)).mono ?_;rintro _ w2 ⟨rfl,p1,p2,sG⟩;have bu:=sG.size;(try (simp at bu));have zz:=And.intro (dB sG (b:=w1.heap.size) tS (by assumption)) <| And.intro (dB sG (b:=w.heap.size+1+1+1+1) tS (by assumption)) <| And.intro (dB sG (b:=w.heap.size+1+1+1) tS (by assumption)) <| And.intro (dB sG (b:=w.heap.size+1+1) tS (by assumption)) <| And.intro (dB sG (b:=w.heap.size+1) tS (by assumption)) <| dB sG (b:=w.heap.size) tS (by assumption);(first|simp [go_sem,bX,k0,k1,k2,k3,k4] at zz|simp [go_sem] at zz|skip);replace bX:=Vu zz;clear zz;have RA:=FV (w:=w) zB sG;clear sG
    have hO2:ik (Value.slice ya c.cells.length yp).ownBlock (Value.slice ya c.cells.length yp).ownBlock w w2:=lW RA
    have hB2:Below w.heap.size w w2:=FU (Below.refl _ _) hO2 TD TD
    have hs2:=hB2.size
    have j0:w.heap.size<w2.heap.size:=by omega
    have j1:w.heap.size+1<w2.heap.size:=by omega
    have j2:w.heap.size+1+1<w2.heap.size:=by omega
    have j3:w.heap.size+1+1+1<w2.heap.size:=by omega
    have j4:w.heap.size+1+1+1+1<w2.heap.size:=by omega
    first
    | (replace mA:=mA
       have s1:=own_below o1 hB2
       have s2:=own_below o2 hB2)
    | (replace mB:=mB
       have s1:ag w2 lo (.slice ya c.cells.length yp) (aY c i y.seen st m).cells:=p1
       have s2:ai w2 lo (.slice yb L.length yq) L:=p2)
    go_wp2_with fail
    go_region
    all_goals go_wp2
    first
    | (replace mA:=mA
       all_goals (refine rE Tryz.results255 rfl (az c (.slice a1 c.cells.length q1) (.slice a2 c.words.length q2) tZ) rfl (aj z tZ) ⟨⟨_,_,rfl,?_,?_,ak _ _,ak _ _⟩,by exact zB⟩)
       all_goals first|(show ag _ _ _ c.cells;exact zO s1 o1)|skip
       all_goals (show ai _ _ _ c.words;exact zO s2 o2))
    | (replace mB:=mB
       all_goals (refine rE Tryz.results255 rfl (az c (.slice ya c.cells.length yp) (.slice yb L.length yq) tZ) rfl (aj { y with mine:=m } tZ) ⟨⟨_,_,rfl,?_,?_,dL,dI⟩,by exact zB⟩)
       all_goals first|(show ag _ _ _ (aY c i y.seen st m).cells;exact zO s1 aV)|skip
       all_goals (show ai _ _ _ L;exact zO s2 aX))
theorem G8 (c:Ch) (st:Int) (y z:Ha) (v1 v2:Value) (lo:Nat) (w:World) (h1:ag w lo v1 c.cells) (h2:ai w lo v2 c.words) (hc0:0≤y.cell) (hc1:y.cell<c.cells.length) (hc:aK c=true) (hlo:lo≤w.heap.size) (hf:¬ 80≤c.words.length) (m:Int) (hm:m=(c.words.length:Int)+1) (ht:bn c y.cell y.seen st m=false) :
    Calls Tryz.prog 255 #[.agg (af c v1 v2),.int .i64 st,.agg (aa y),.agg (aa z)] w fun r w'=>StepB w w' lo v1 v2 ((c,z,true)) r:=(uA c st y z v1 v2 lo w h1 h2 hc0 hc1 hc hlo hf m hm).1 ht
theorem DJ (c:Ch) (st:Int) (y z:Ha) (v1 v2:Value) (lo:Nat) (w:World) (h1:ag w lo v1 c.cells) (h2:ai w lo v2 c.words) (hc0:0≤y.cell) (hc1:y.cell<c.cells.length) (hc:aK c=true) (hlo:lo≤w.heap.size) (hf:¬ 80≤c.words.length) (m:Int) (hm:m=(c.words.length:Int)+1) (ht:bn c y.cell y.seen st m=true) :
    Calls Tryz.prog 255 #[.agg (af c v1 v2),.int .i64 st,.agg (aa y),.agg (aa z)] w fun r w'=>StepB w w' lo v1 v2 (({ aY c y.cell y.seen st m with words:=c.words ++ [0] },{ y with mine:=m },true)) r:=(uA c st y z v1 v2 lo w h1 h2 hc0 hc1 hc hlo hf m hm).2 ht
def xH (c:Ch) (st:Int) (y z:Ha):St :=
  if 80≤c.words.length then (c,aP 4 0,true) else
  if bn c y.cell y.seen st (c.words.length+1) then ({ aY c y.cell y.seen st (c.words.length+1) with words:=c.words ++ [0] },{ y with mine:=c.words.length+1 },true) else (c,z,true)
theorem uB (c:Ch) (st:Int) (y z:Ha) (v1 v2:Value) (lo:Nat) (w:World) (h1:ag w lo v1 c.cells) (h2:ai w lo v2 c.words) (hc0:0≤y.cell) (hc1:y.cell<c.cells.length) (hc:aK c=true) (hlo:lo≤w.heap.size) :
    Calls Tryz.prog 255 #[.agg (af c v1 v2),.int .i64 st,.agg (aa y),.agg (aa z)] w fun r w'=>StepB w w' lo v1 v2 (xH c st y z) r:=by
  by_cases hf:80≤c.words.length
  · rw [show xH c st y z=(c,aP 4 0,true) by simp [xH,hf]]
    exact Bo c st y z v1 v2 lo w h1 h2 hc hf
  · cases ht:bn c y.cell y.seen st (c.words.length+1) with
    | true =>
      rw [show xH c st y z=({ aY c y.cell y.seen st (c.words.length+1) with words:=c.words ++ [0] },{ y with mine:=c.words.length+1 },true) by simp [xH,hf,ht]]
      exact DJ c st y z v1 v2 lo w h1 h2 hc0 hc1 hc hlo hf _ rfl ht
    | false =>
      rw [show xH c st y z=(c,z,true) by simp [xH,hf,ht]]
      exact G8 c st y z v1 v2 lo w h1 h2 hc0 hc1 hc hlo hf _ rfl ht
end
section
open Go.RowKit
attribute [local simp] aC
attribute [local go_sem ↓] aB aU aL bB aM bC aG aN au aF
theorem JM (c:Ch) (i m:Int) (a b:Value):af (nk c i m) a b=af c a b:=rfl
theorem G9 (c:Ch) (i m:Int):(nk c i m).words=c.words:=rfl
theorem MH (c:Ch) (h:Ha) (a b:Option Addr) (p q:Nat) (w:World) (h1:eY w w.heap.size a c.cells) (z1:a=none→p=0) (h2:eQ w w.heap.size b c.words) (z2:b=none→q=0) (hk:bf c h 1 8 1=true) (hp0:h.pos=2) :
  Calls Tryz.prog 189 #[.agg (af c (.slice a c.cells.length p) (.slice b c.words.length q)),.agg (aa h)] w fun r w'=>bV w w' (aZ c h) r:=by
 obtain ⟨k1,k2,_,_⟩:=bQ hk
 obtain ⟨n1,n2⟩:=dU k1
 have m1:c.cells.length≤1099511627776:=by omega
 have m2:c.words.length≤1099511627776:=by omega
 have H1:=Lib.hid h1
 have H2:=Lib.hid h2
 have Z1:=Lib.hid z1
 have Z2:=Lib.hid z2
 obtain ⟨c1,c2⟩:=fM k2
 obtain ⟨i,hci⟩:∃ i:Nat,h.cell=(i:Int):=⟨h.cell.toNat,by omega⟩
 have hi:i<c.cells.length:=by omega
 have e:aZ c h=done (nk c i h.elem) { h with pos:=3,cell:=(i:Int) }:=by simp [aZ,hk,hp0,hci,Fh] <;> rfl
 rw [e]
 have D:=fun v1 v2 W=>bE (nk c i h.elem) { h with pos:=3,cell:=(i:Int) } v1 v2 w.heap.size W
 have hlc:(nk c i h.elem).cells=c.cells.set i ⟨(c.cells.getD i ⟨0,0,0⟩).s,kQ (c.cells.getD i ⟨0,0,0⟩).s (c.cells.getD i ⟨0,0,0⟩).e (c.cells.getD i ⟨0,0,0⟩).t h.elem,(c.cells.getD i ⟨0,0,0⟩).t⟩:=by simp [nk,setAt,cellAt]
 rw [hlc] at D
 simp only [JM,G9] at D
 generalize done (nk c i h.elem) { h with pos:=3,cell:=(i:Int) }=x at *
 clear hlc
 replace D:=Lib.hid D
 clear h1 h2 z1 z2 e k1 k2 n1 n2 c1 c2
 go_enter Tryz.func189,Tryz.ntmps189
 go_wp2_with fail;refine ax w zB fun bb=>?_;refine (d9 c h 1 8 1 a b p q _ (aT H1 bb) (aT H2 bb)).mono ?_;rintro _ w1 ⟨rfl,ah⟩;obtain ⟨aW,ay,zz⟩:=dZ bb ah (b:=w.heap.size);(try simp at ay);(try simp [go_sem] at zz);replace bX:=dF zz;clear zz ah bb
 rw [hk]
 go_wp2_with fail;refine ax w zB fun bb=>?_;refine (dA c a b p q _ (aT H1 bb) Z1.out (aT H2 bb) Z2.out m1 m2).mono ?_;rintro _ w2 ⟨⟨v1,v2,rfl,o1,o2⟩,hbw2⟩;obtain ⟨dE,bu,zz⟩:=dZ bb hbw2 (b:=w.heap.size);(try simp at bu);(first|simp [go_sem,bX] at zz|simp [go_sem] at zz|skip);replace bX:=dF zz;clear zz hbw2 bb
 have d1:=jd o1 (w.heap.size+1+1+1+1)
 have d2:=jd o2 (w.heap.size+1+1+1+1)
 have p1:=av (lo':=w.heap.size) o1 tO
 have p2:=av (lo':=w.heap.size) o2 tO
 obtain ⟨a1,q1,rfl,_⟩:=o1.seg
 obtain ⟨a2,q2,rfl,_⟩:=o2.seg
 have nw:∀ j,(j<w.heap.size+1+1+1+1∨w2.heap.size≤j)→some j≠(Value.slice a1 c.cells.length q1).ownBlock:=fun j hj e=>by have:=d1 _ e.symm;have:=(o1.lt _ e.symm).2;omega
 have Oc:=nw (w.heap.size) tO
 have M5:=nw (w.heap.size+1) tO
 have M6:=nw (w.heap.size+1+1) tO
 have NG:=nw (w.heap.size+1+1+1) tO
 have Pf:=nw w2.heap.size tO
 obtain ⟨k0,k1,k2,k3⟩:=kZ (a:=w.heap.size) (b:=w2.heap.size)
 obtain ⟨g,cap,hv,hlo,hlt,hcell,hfr⟩:=o1.open1 hi
 simp at hv
 obtain ⟨rfl,rfl⟩:=hv
 have HO:=Lib.hid o1
 have HP:=Lib.hid p1
 generalize c.cells.getD i ⟨0,0,0⟩=x0 at *
 obtain ⟨s,e,t⟩:=x0
 have g0:=hcell 0 tO
 have g1:=hcell 1 tO
 have g2:=hcell 2 tO
 simp only [C3.val,Nat.add_zero] at g0 g1 g2
 have hi0:(0:Int)≤(i:Int):=by omega
 have hi1:(i:Int)<(c.cells.length:Int):=by omega
 have PE:∀ j,(j<w.heap.size+1+1+1+1∨w2.heap.size≤j)→g≠j:=fun j hj e=>nw j hj (by simp [Value.ownBlock,e])
 have vH:=PE w.heap.size tO
 have vI:=PE (w.heap.size+1) tO
 have vJ:=PE (w.heap.size+1+1) tO
 have vK:=PE (w.heap.size+1+1+1) tO
 have Xn:=PE w2.heap.size tO
 have hg2:=ag.ne o1 o2 g (by simp [Value.ownBlock])
 clear hcell o1 p1
 go_wp2_with fail
 refine wp_region_held_drew (S:=fun w'=>w'.cell? ⟨w2.heap.size,4,none⟩=some (.slice (some ⟨g,0,none⟩) c.cells.length q1)∧w'.cell? ⟨w.heap.size+1,3,none⟩=some (.int .i64 i)∧w'.cell? ⟨w.heap.size+1,2,none⟩=some (.int .i64 h.elem)) (by kernel_rfl) (by simp [*,go_sem]) (fun hS0=>?_)
 refine mT (i:=0) (oi:=⟨some 43,_,_,_,_,_⟩) rfl ?_;(try simp only [Act.put,List.setIfInBounds_toArray,List.set_cons_zero,List.set_cons_succ])
 refine mT (i:=1) (oi:=⟨some 44,_,_,_,_,_⟩) rfl ?_;(try simp only [Act.put,List.setIfInBounds_toArray,List.set_cons_zero,List.set_cons_succ])
 refine mT (i:=2) (oi:=⟨some 45,_,_,_,_,_⟩) rfl ?_;(try simp only [Act.put,List.setIfInBounds_toArray,List.set_cons_zero,List.set_cons_succ])
 refine mT (i:=3) (oi:=⟨some 46,_,_,_,_,_⟩) rfl ?_;(try simp only [Act.put,List.setIfInBounds_toArray,List.set_cons_zero,List.set_cons_succ])
 refine mT (i:=4) (oi:=⟨some 47,_,_,_,_,_⟩) rfl ?_;(try simp only [Act.put,List.setIfInBounds_toArray,List.set_cons_zero,List.set_cons_succ])
 refine mT (i:=5) (oi:=⟨some 48,_,_,_,_,_⟩) rfl ?_;(try simp only [Act.put,List.setIfInBounds_toArray,List.set_cons_zero,List.set_cons_succ])
 refine mT (i:=6) (oi:=⟨some 49,_,_,_,_,_⟩) rfl ?_;(try simp only [Act.put,List.setIfInBounds_toArray,List.set_cons_zero,List.set_cons_succ])
 refine mT (i:=7) (oi:=⟨some 50,_,_,_,_,_⟩) rfl ?_;(try simp only [Act.put,List.setIfInBounds_toArray,List.set_cons_zero,List.set_cons_succ])
 refine mT (i:=8) (oi:=⟨some 51,_,_,_,_,_⟩) rfl ?_;(try simp only [Act.put,List.setIfInBounds_toArray,List.set_cons_zero,List.set_cons_succ])
 refine mT (i:=10) (oi:=⟨some 53,_,_,_,_,_⟩) rfl ?_;(try simp only [Act.put,List.setIfInBounds_toArray,List.set_cons_zero,List.set_cons_succ])
 refine mT (i:=11) (oi:=⟨some 54,_,_,_,_,_⟩) rfl ?_;(try simp only [Act.put,List.setIfInBounds_toArray,List.set_cons_zero,List.set_cons_succ])
 refine mT (i:=12) (oi:=⟨some 55,_,_,_,_,_⟩) rfl ?_;(try simp only [Act.put,List.setIfInBounds_toArray,List.set_cons_zero,List.set_cons_succ])
 refine wpAnyH_ready (rs:=[9]) (by kernel_rfl) (by simp) ?_
 refine AllReadyH.cons (o:=⟨some 52,_,_,_,_,_⟩) rfl (fun K hK=>?_) AllReadyH.nil
 go_simp
 refine hK.out _ _ hS0 (fun RB=>?_)
 clear hK
 (try simp only [Act.put,List.setIfInBounds_toArray,List.set_cons_zero,List.set_cons_succ])
 refine wpAnyH_ready (rs:=[13]) (by kernel_rfl) (by simp) ?_
 refine AllReadyH.cons (o:=⟨some 56,_,_,_,_,_⟩) rfl (fun K hK=>?_) AllReadyH.nil
 go_simp
 go_at_call 199
 refine (Gv s e t h.elem _).mono ?_
 rintro _ w4 ⟨rfl,dY⟩
 have jG:Below w.heap.size w w4:=bT zB dY
 have ow:Below w2.heap.size w2 w4:=bT zB dY
 have y0:=(ow.cell (p:=⟨g,i*3,none⟩) hlt).trans g0
 have y1:=(ow.cell (p:=⟨g,i*3+1,none⟩) hlt).trans g1
 have y2:=(ow.cell (p:=⟨g,i*3+2,none⟩) hlt).trans g2
 have yf:=fun o=>(ow.frozen (p:=⟨g,o,none⟩) hlt).trans (hfr o)
 have iw:=dY.size;(try simp at iw);have zz:=And.intro (hQ dY (b:=w2.heap.size)) <| And.intro (hQ dY (b:=w.heap.size+1+1+1)) <| And.intro (hQ dY (b:=w.heap.size+1+1)) <| And.intro (hQ dY (b:=w.heap.size+1)) <| hQ dY (b:=w.heap.size);(first|simp [go_sem,bX,k0,k1,k2,k3] at zz|simp [go_sem] at zz|skip);replace bX:=jL zz;clear zz dY
 refine hK.out _ _ (by simp [*,go_sem]) (fun RD=>?_)
 clear hK
 (try simp only [Act.put,List.setIfInBounds_toArray,List.set_cons_zero,List.set_cons_succ])
 refine mT (i:=14) (oi:=⟨some 57,_,_,_,_,_⟩) rfl ?_;(try simp only [Act.put,List.setIfInBounds_toArray,List.set_cons_zero,List.set_cons_succ])
 refine wpAnyH_ready (rs:=[15]) (by kernel_rfl) (by simp) ?_
 refine AllReadyH.cons (o:=⟨none,_,_,_,_,_⟩) rfl (fun K hK=>?_) AllReadyH.nil
 go_simp
 refine hK.out _ _ (by simp [*,go_sem]) (fun hS5=>?_)
 clear hK
 (try simp only [Act.put,List.setIfInBounds_toArray,List.set_cons_zero,List.set_cons_succ])
 refine wpAnyH_done (by kernel_rfl) ?_ _
 obtain ⟨w5,lV⟩:∃ w5,w5=((w4.setCell ⟨g,i*3,none⟩ (.int .i64 s)).setCell ⟨g,i*3+1,none⟩ (.int .i64 (kQ s e t h.elem))).setCell ⟨g,i*3+2,none⟩ (.int .i64 t):=⟨_,rfl⟩
 have r1:ag w5 w1.heap.size (.slice (some ⟨g,0,none⟩) c.cells.length q1) (c.cells.set i ⟨s,kQ s e t h.elem,t⟩):=by rw [lV];simpa using ag.set (own_below HO.out ow) hi ⟨s,kQ s e t h.elem,t⟩
 have r2:ai w5 w1.heap.size (.slice a2 c.words.length q2) c.words:=by rw [lV];exact aS (aS (aS (own_below o2 ow) hg2 _) hg2 _) hg2 _
 have kL:w4.grownBy w5 (Value.slice (some ⟨g,0,none⟩) c.cells.length q1).ownBlock:=by rw [lV];exact gS (gS (gS (gR _ _) (.inl rfl)) (.inl rfl)) (.inl rfl)
 rw [← lV]
 clear lV
 have iL:=kL.size;(try (simp at iL));have zz:=And.intro (dB kL (b:=w2.heap.size) tS (by assumption)) <| And.intro (dB kL (b:=w.heap.size+1+1+1) tS (by assumption)) <| And.intro (dB kL (b:=w.heap.size+1+1) tS (by assumption)) <| And.intro (dB kL (b:=w.heap.size+1) tS (by assumption)) <| dB kL (b:=w.heap.size) tS (by assumption);(first|simp [go_sem,bX,k0,k1,k2,k3] at zz|simp [go_sem] at zz|skip);replace bX:=jL zz;clear zz
 have oM:Below w.heap.size w w5:=iE jG kL tO (fun k hk=>by have:=d1 k hk;omega)
 clear kL y0 y1 y2 yf hS0 RB RD hS5
 have s1:=av (lo':=w.heap.size) r1 tO
 have s2:=av (lo':=w.heap.size) r2 tO
 go_wp2_with fail;refine ax w zB fun bb=>?_;refine (D.out _ _ _ (zO s1 r1) (zO s2 r2)).mono ?_;rintro _ w3 ⟨⟨y1,y2,rfl,aV,aX,dL,dI⟩,aO⟩;obtain ⟨ig,df,zz⟩:=dZ bb aO (b:=w.heap.size);(try simp at df);(first|simp [go_sem,bX,k0,k1,k2,k3] at zz|simp [go_sem] at zz|skip);replace bX:=dF zz;clear zz aO bb
 obtain ⟨⟨aI,aJ⟩,dP,dQ⟩:=lL (w:=w) (w.heap.size+1+1+1+1) dL dI d1 d2;obtain ⟨ya,yp,rfl,_⟩:=aV.seg;obtain ⟨yb,yq,rfl,_⟩:=aX.seg
 go_wp2
 refine rE Tryz.results189 rfl (az x.1 (.slice ya x.1.cells.length yp) (.slice yb x.1.words.length yq) tY) rfl (aj x.2.1 tY) ⟨⟨_,_,rfl,?_,?_,dP,dQ⟩,by exact zB⟩
 ·exact zP aV aV aI
 ·exact zP aX aX aJ
end
section
open Go.RowKit
attribute [local simp] aC
attribute [local go_sem ↓] aB aU aL bB aM bC aG aN au aF
theorem Bp (c:Ch) (h:Ha) (v1 v2:Value) (lo:Nat) (w:World) (h1:ag w lo v1 c.cells) (h2:ai w lo v2 c.words) (hc0:0≤h.cell) (hc1:h.cell<c.cells.length) :
  cu 240 c h v1 v2 lo w ((nk c h.cell h.elem,{ h with pos:=3 },true)):=by
 obtain ⟨i,hci⟩:∃ i:Nat,h.cell=(i:Int):=⟨h.cell.toNat,by omega⟩
 have hi:i<c.cells.length:=by omega
 have hi0:(0:Int)≤(i:Int):=by omega
 have hi1:(i:Int)<(c.cells.length:Int):=by omega
 have hne:=h1.ne h2
 obtain ⟨a2,q2,rfl,_⟩:=h2.seg
 obtain ⟨g,q1,rfl,hlo1,hlt,hcell,hfr⟩:=h1.open1 hi
 have O1:=Lib.hid h1
 have O2:=Lib.hid h2
 have jI:g<w.heap.size+1:=by omega
 have jJ:g<w.heap.size+1+1:=by omega
 have jK:g<w.heap.size+1+1+1:=by omega
 have vH:g≠w.heap.size:=by omega
 have vI:g≠w.heap.size+1:=by omega
 have vJ:g≠w.heap.size+1+1:=by omega
 have vK:g≠w.heap.size+1+1+1:=by omega
 have xC:w.heap.size≠g:=by omega
 have xD:w.heap.size+1≠g:=by omega
 have xE:w.heap.size+1+1≠g:=by omega
 have xG:w.heap.size+1+1+1≠g:=by omega
 have hx:Hid (cellAt c h.cell=c.cells.getD i ⟨0,0,0⟩):=by simp [cellAt,Hid,hci]
 have c0:=hcell 0 tO
 have c1:=hcell 1 tO
 have c2:=hcell 2 tO
 simp only [C3.val,Nat.add_zero] at c0 c1 c2
 rw [show nk c h.cell h.elem=nk c i h.elem by rw [hci]]
 have hlc:Hid ((nk c i h.elem).cells=c.cells.set i ⟨(c.cells.getD i ⟨0,0,0⟩).s,kQ (c.cells.getD i ⟨0,0,0⟩).s (c.cells.getD i ⟨0,0,0⟩).e (c.cells.getD i ⟨0,0,0⟩).t h.elem,(c.cells.getD i ⟨0,0,0⟩).t⟩):=by simp [nk,setAt,cellAt,Hid]
 clear hx hcell h1 h2
 generalize c.cells.getD i ⟨0,0,0⟩=x at *
 obtain ⟨s,e,t⟩:=x
 simp only at c0 c1 c2
 have o1:=O1.out
 have o2:=O2.out
 go_enter Tryz.func240,Tryz.ntmps240
 go_wp2_with fail
 refine wp_region_held_drew (S:=fun w'=>w'.cell? ⟨w.heap.size,4,none⟩=some (.slice (some ⟨g,0,none⟩) c.cells.length q1)∧w'.cell? ⟨w.heap.size+1,3,none⟩=some (.int .i64 i)∧w'.cell? ⟨w.heap.size+1,2,none⟩=some (.int .i64 h.elem)) (by kernel_rfl) (by simp [*,go_sem]) (fun hS0=>?_)
 refine mT (i:=0) (oi:=⟨some 7,_,_,_,_,_⟩) rfl ?_;(try simp only [Act.put,List.setIfInBounds_toArray,List.set_cons_zero,List.set_cons_succ])
 refine mT (i:=1) (oi:=⟨some 8,_,_,_,_,_⟩) rfl ?_;(try simp only [Act.put,List.setIfInBounds_toArray,List.set_cons_zero,List.set_cons_succ])
 refine mT (i:=2) (oi:=⟨some 9,_,_,_,_,_⟩) rfl ?_;(try simp only [Act.put,List.setIfInBounds_toArray,List.set_cons_zero,List.set_cons_succ])
 refine mT (i:=3) (oi:=⟨some 10,_,_,_,_,_⟩) rfl ?_;(try simp only [Act.put,List.setIfInBounds_toArray,List.set_cons_zero,List.set_cons_succ])
 refine mT (i:=4) (oi:=⟨some 11,_,_,_,_,_⟩) rfl ?_;(try simp only [Act.put,List.setIfInBounds_toArray,List.set_cons_zero,List.set_cons_succ])
 refine mT (i:=5) (oi:=⟨some 12,_,_,_,_,_⟩) rfl ?_;(try simp only [Act.put,List.setIfInBounds_toArray,List.set_cons_zero,List.set_cons_succ])
 refine mT (i:=6) (oi:=⟨some 13,_,_,_,_,_⟩) rfl ?_;(try simp only [Act.put,List.setIfInBounds_toArray,List.set_cons_zero,List.set_cons_succ])
 refine mT (i:=7) (oi:=⟨some 14,_,_,_,_,_⟩) rfl ?_;(try simp only [Act.put,List.setIfInBounds_toArray,List.set_cons_zero,List.set_cons_succ])
 refine mT (i:=8) (oi:=⟨some 15,_,_,_,_,_⟩) rfl ?_;(try simp only [Act.put,List.setIfInBounds_toArray,List.set_cons_zero,List.set_cons_succ])
 refine mT (i:=10) (oi:=⟨some 17,_,_,_,_,_⟩) rfl ?_;(try simp only [Act.put,List.setIfInBounds_toArray,List.set_cons_zero,List.set_cons_succ])
 refine mT (i:=11) (oi:=⟨some 18,_,_,_,_,_⟩) rfl ?_;(try simp only [Act.put,List.setIfInBounds_toArray,List.set_cons_zero,List.set_cons_succ])
 refine mT (i:=12) (oi:=⟨some 19,_,_,_,_,_⟩) rfl ?_;(try simp only [Act.put,List.setIfInBounds_toArray,List.set_cons_zero,List.set_cons_succ])
 refine wpAnyH_ready (rs:=[9]) (by kernel_rfl) (by simp) ?_
 refine AllReadyH.cons (o:=⟨some 16,_,_,_,_,_⟩) rfl (fun K hK=>?_) AllReadyH.nil
 go_simp
 refine hK.out _ _ hS0 (fun RB=>?_)
 clear hK
 (try simp only [Act.put,List.setIfInBounds_toArray,List.set_cons_zero,List.set_cons_succ])
 refine wpAnyH_ready (rs:=[13]) (by kernel_rfl) (by simp) ?_
 refine AllReadyH.cons (o:=⟨some 20,_,_,_,_,_⟩) rfl (fun K hK=>?_) AllReadyH.nil
 go_simp
 go_at_call 248
 refine (JL s e t h.elem _).mono ?_
 rintro _ w4 ⟨rfl,dY⟩
 have jG:Below w.heap.size w w4:=bT zB dY
 have y0:=(jG.cell (p:=⟨g,i*3,none⟩) hlt).trans c0
 have y1:=(jG.cell (p:=⟨g,i*3+1,none⟩) hlt).trans c1
 have y2:=(jG.cell (p:=⟨g,i*3+2,none⟩) hlt).trans c2
 have yf:=fun o=>(jG.frozen (p:=⟨g,o,none⟩) hlt).trans (hfr o)
 have iw:=dY.size;(try simp at iw);have zz:=q4 dY (b:=w.heap.size);(try simp [go_sem] at zz);(try clear aA bK bL aR);(try clear aH cB cK bq);(try clear bz di dz bZ);(try clear dw dV eD dJ);obtain ⟨aA,aH,bz,dw⟩:=zz;obtain ⟨bK,bL,aR⟩:=bO aA;obtain ⟨cB,cK,bq⟩:=bO aH;obtain ⟨di,dz,bZ⟩:=bO bz;obtain ⟨dV,eD,dJ⟩:=bO dw;clear dY
 refine hK.out _ _ (by simp [*,go_sem]) (fun RD=>?_)
 clear hK
 (try simp only [Act.put,List.setIfInBounds_toArray,List.set_cons_zero,List.set_cons_succ])
 refine mT (i:=14) (oi:=⟨some 21,_,_,_,_,_⟩) rfl ?_;(try simp only [Act.put,List.setIfInBounds_toArray,List.set_cons_zero,List.set_cons_succ])
 refine wpAnyH_ready (rs:=[15]) (by kernel_rfl) (by simp) ?_
 refine AllReadyH.cons (o:=⟨none,_,_,_,_,_⟩) rfl (fun K hK=>?_) AllReadyH.nil
 go_simp
 refine hK.out _ _ (by simp [*,go_sem]) (fun hS5=>?_)
 clear hK
 (try simp only [Act.put,List.setIfInBounds_toArray,List.set_cons_zero,List.set_cons_succ])
 refine wpAnyH_done (by kernel_rfl) ?_ _
 obtain ⟨w5,lV⟩:∃ w5,w5=((w4.setCell ⟨g,i*3,none⟩ (.int .i64 s)).setCell ⟨g,i*3+1,none⟩ (.int .i64 (kQ s e t h.elem))).setCell ⟨g,i*3+2,none⟩ (.int .i64 t):=⟨_,rfl⟩
 have r1:ag w5 lo (.slice (some ⟨g,0,none⟩) c.cells.length q1) (nk c i h.elem).cells:=by rw [lV];rw [hlc.out];simpa using ag.set (own_below o1 jG) hi ⟨s,(kQ s e t h.elem),t⟩
 have r2:ai w5 lo (.slice a2 c.words.length q2) c.words:=by rw [lV];exact aS (aS (aS (own_below o2 jG) (hne g rfl) _) (hne g rfl) _) (hne g rfl) _
 have kL:w4.grownBy w5 (some g):=by rw [lV];exact gS (gS (gS (gR _ _) (.inl rfl)) (.inl rfl)) (.inl rfl)
 rw [← lV]
 clear lV
 have QH:some w.heap.size≠some g:=by simp;omega
 have QI:some (w.heap.size+1)≠some g:=by simp;omega
 have QJ:some (w.heap.size+1+1)≠some g:=by simp;omega
 have QK:some (w.heap.size+1+1+1)≠some g:=by simp;omega
 have iL:=kL.size;(try (simp at iL));have zz:=And.intro (dB kL (b:=w.heap.size+1+1+1) tS (by assumption)) <| And.intro (dB kL (b:=w.heap.size+1+1) tS (by assumption)) <| And.intro (dB kL (b:=w.heap.size+1) tS (by assumption)) <| dB kL (b:=w.heap.size) tS (by assumption);(first|simp [go_sem,aA,aH,bz,dw,dJ,bZ,bq,aR] at zz|simp [go_sem] at zz|skip);(try clear aA bK bL aR);(try clear aH cB cK bq);(try clear bz di dz bZ);(try clear dw dV eD dJ);obtain ⟨aA,aH,bz,dw⟩:=zz;obtain ⟨bK,bL,aR⟩:=bO aA;obtain ⟨cB,cK,bq⟩:=bO aH;obtain ⟨di,dz,bZ⟩:=bO bz;obtain ⟨dV,eD,dJ⟩:=bO dw
 have TE:Gr g w w5:=gT (pO jG) kL
 clear kL
 clear y0 y1 y2 yf hS0 RB RD hS5
 go_wp2_with fail
 go_region_held3 (fun w'=>hp w' w.heap.size=some (.cells (af c (.slice (some ⟨g,0,none⟩) c.cells.length q1) (.slice a2 c.words.length q2)) 31)∧hp w' (w.heap.size+1)=some (.cells (aa h) 49))
  (first|(simp [*,go_sem]))
  (first|(go_at_call 247;refine (cZ _ _ _).mono ?_;rintro _ w6 ⟨rfl,il⟩;have PG:Gr g w w6:=gT zG (pO il);have xW:=il.size;(try (simp at xW));have zz:=hQ il (b:=w.heap.size);(first|(simp [go_sem,dw,dJ] at zz)|(simp [go_sem] at zz));(try clear dV eD);(try clear dw);have dw:=zz;clear zz;(try clear dJ);obtain ⟨dV,eD,dJ⟩:=bO dw;have zz:=hQ il (b:=w.heap.size+1);(first|(simp [go_sem,bz,bZ] at zz)|(simp [go_sem] at zz));(try clear di dz);(try clear bz);have bz:=zz;clear zz;(try clear bZ);obtain ⟨di,dz,bZ⟩:=bO bz;have zz:=hQ il (b:=w.heap.size+1+1);(first|(simp [go_sem,aH,bq] at zz)|(simp [go_sem] at zz));(try clear cB cK);(try clear aH);have aH:=zz;clear zz;(try clear bq);obtain ⟨cB,cK,bq⟩:=bO aH;have zz:=hQ il (b:=w.heap.size+1+1+1);(first|(simp [go_sem,aA,aR] at zz)|(simp [go_sem] at zz));(try clear bK bL);(try clear aA);have aA:=zz;clear zz;(try clear aR);obtain ⟨bK,bL,aR⟩:=bO aA;have p1:ag w6 lo (.slice (some ⟨g,0,none⟩) c.cells.length q1) (nk c i h.elem).cells:=own_below (zO r1 o1) il;have p2:ai w6 lo (.slice a2 c.words.length q2) c.words:=own_below (zO r2 o2) il))
 go_wp2
 refine rE Tryz.results240 rfl (az (nk c i h.elem) (.slice (some ⟨g,0,none⟩) c.cells.length q1) (.slice a2 c.words.length q2) tZ) rfl (aj { h with pos:=3 } (by simp [go_sem, *] <;> first|rfl|simp [bM,anew,hci])) ⟨⟨_,_,rfl,?_,?_,ak _ _,ak _ _⟩,lW (show w.grownBy _ (some g) from zG)⟩
 ·show ag _ lo (.slice (some ⟨g,0,none⟩) c.cells.length q1) (nk c i h.elem).cells
  exact zO p1 o1
 ·show ai _ lo (.slice a2 c.words.length q2) c.words
  exact zO p2 o2
end
end Go.Proofs.YtffhjmepfojhnaaGreat
