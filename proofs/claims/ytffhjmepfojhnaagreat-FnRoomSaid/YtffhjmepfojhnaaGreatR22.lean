/-
  The program's touch of growing, case by case, on hands and channels that are kept whole; the lists are the call's own.
-/
import Derived.Test.YtffhjmepfojhnaaGreatR04
import Derived.Test.YtffhjmepfojhnaaGreatR21
import Derived.LoopN
import Derived.WalkMore
import Derived.BigRegion
import Derived.Deep.DeepCutAuto
import Derived.Deep.RegionHeld3
set_option maxRecDepth 100000
set_option maxHeartbeats 2000000
set_option linter.unusedSimpArgs false
set_option linter.unusedVariables false
namespace Go.Proofs.YtffhjmepfojhnaaGreat
open Go.RowKit
attribute [local simp] aC
attribute [local go_sem ↓] aB aU aL bB aM bC aG aN au aF
theorem vR (c:Ch) (h:Ha) (v1 v2:Value) (lo:Nat) (w:World) (h1:ag w lo v1 c.cells) (h2:ai w lo v2 c.words) (hg:(c.cap == 0)=true) (hcall:dO h.code h.elem=true) (hnx:0≤h.nxt∧h.nxt≤2) (hq:(h.pos == 16)=true) (hk:(h.code != 2)=false) :
    cu 268 c h v1 v2 lo w ((c,dC h,true)):=by
  obtain ⟨y0,hy0⟩:∃ y0,dC h=y0:=⟨_,rfl⟩
  have GR:=Lib.hid fun W=>l8 h W hcall hnx
  rw [hy0] at GR
  rw [hy0]
  clear hy0 hcall hnx
  obtain ⟨a1,q1,a2,q2,rfl,rfl,O1,O2,b1,b2⟩:=ql h1 h2
  clear h1 h2
  have o1:=O1.out
  have o2:=O2.out
  go_enter Tryz.func268,Tryz.ntmps268
  go_wp2
  go_step3
  go_wp2
  go_step3
  go_wp2
  refine wp_loop_rounds 2 ?_
  rw [rounds_succ]
  go_wp2_with fail
  rw [rounds_succ]
  go_wp2_with fail
  go_region_held3 (fun w'=>hp w' w.heap.size=some (.cells (af c (.slice a1 c.cells.length q1) (.slice a2 c.words.length q2)) 31)∧hp w' (w.heap.size+1)=some (.cells (aa h) 49))
    (first|(simp [*,go_sem]))
    (first|((go_at_call 271;refine ax w zB fun bb=>?_;refine (GR.out _).mono ?_;rintro _ w2 ⟨rfl,hbw2⟩;obtain ⟨dE,bu,zz⟩:=dZ bb hbw2 (b:=w.heap.size);(try simp at bu);(try simp [go_sem] at zz);replace bX:=dF zz;clear zz;have eu:=dE;clear hbw2 bb);have r1:=own_below o1 eu;have r2:=own_below o2 eu))
  go_wp2
  try rw [Exit.noGoto_ret]
  refine rE Tryz.results268 rfl (az c (.slice a1 c.cells.length q1) (.slice a2 c.words.length q2) tZ) rfl (aj y0 tZ) ⟨⟨_,_,rfl,?_,?_,ak _ _,ak _ _⟩,dx zB⟩
  · exact zO r1 o1
  · exact zO r2 o2
theorem vS (c:Ch) (h:Ha) (v1 v2:Value) (lo:Nat) (w:World) (h1:ag w lo v1 c.cells) (h2:ai w lo v2 c.words) (hg:(c.cap == 0)=false) (hf:(c.fin == 40)=true) (hcall:dO h.code h.elem=true) (hnx:0≤h.nxt∧h.nxt≤2) (hq:(h.pos == 16)=true) (hk:(h.code != 2)=false) :
    cu 268 c h v1 v2 lo w ((c,dC h,true)):=by
  obtain ⟨y0,hy0⟩:∃ y0,dC h=y0:=⟨_,rfl⟩
  have GR:=Lib.hid fun W=>l8 h W hcall hnx
  rw [hy0] at GR
  rw [hy0]
  clear hy0 hcall hnx
  obtain ⟨a1,q1,a2,q2,rfl,rfl,O1,O2,b1,b2⟩:=ql h1 h2
  clear h1 h2
  have o1:=O1.out
  have o2:=O2.out
  go_enter Tryz.func268,Tryz.ntmps268
  go_wp2
  go_step3
  go_wp2
  go_step3
  go_wp2
  refine wp_loop_rounds 2 ?_
  rw [rounds_succ]
  go_wp2_with fail
  rw [rounds_succ]
  go_wp2_with fail
  go_region_held3 (fun w'=>hp w' w.heap.size=some (.cells (af c (.slice a1 c.cells.length q1) (.slice a2 c.words.length q2)) 31)∧hp w' (w.heap.size+1)=some (.cells (aa h) 49))
    (first|(simp [*,go_sem]))
    (first|((go_at_call 271;refine ax w zB fun bb=>?_;refine (GR.out _).mono ?_;rintro _ w2 ⟨rfl,hbw2⟩;obtain ⟨dE,bu,zz⟩:=dZ bb hbw2 (b:=w.heap.size);(try simp at bu);(try simp [go_sem] at zz);replace bX:=dF zz;clear zz;have eu:=dE;clear hbw2 bb);have r1:=own_below o1 eu;have r2:=own_below o2 eu))
  go_wp2
  try rw [Exit.noGoto_ret]
  refine rE Tryz.results268 rfl (az c (.slice a1 c.cells.length q1) (.slice a2 c.words.length q2) tZ) rfl (aj y0 tZ) ⟨⟨_,_,rfl,?_,?_,ak _ _,ak _ _⟩,dx zB⟩
  · exact zO r1 o1
  · exact zO r2 o2
theorem vT (c:Ch) (h:Ha) (v1 v2:Value) (lo:Nat) (w:World) (h1:ag w lo v1 c.cells) (h2:ai w lo v2 c.words) (CY:0≤c.fin∧c.fin≤40) (hg:(c.cap == 0)=false) (hf:(c.fin == 40)=false) (hq:(h.pos == 16)=true) (hk:(h.code != 2)=false) :
    cu 268 c h v1 v2 lo w (({ c with fin:=c.fin+1 },{ h with grow:=c.fin,pos:=17 },true)):=by
  have T:=Lib.hid fun W a b=>uH c h v1 v2 lo W a b CY
  change Hid (∀ W,_→_→Calls _ _ _ _ (fun r w'=>cz W w' lo v1 v2 (({ c with fin:=c.fin+1 },{ h with grow:=c.fin,pos:=17 },true)) r)) at T
  clear CY
  generalize ({ c with fin:=c.fin+1 },{ h with grow:=c.fin,pos:=17 },true)=x at *
  obtain ⟨a1,q1,a2,q2,rfl,rfl,o1,o2,b1,b2,m1,m2,m10,m20,m11,m21,m12,m22,m13,m23⟩:=Cu h1 h2
  clear h1 h2
  go_enter Tryz.func268,Tryz.ntmps268
  go_wp2
  go_step3
  go_wp2
  go_step3
  go_wp2
  refine wp_loop_rounds 2 ?_
  rw [rounds_succ]
  go_wp2_with fail
  refine (T.out _ (zO o1 o1) (zO o2 o2)).mono ?_
  rintro _ w3 ⟨⟨y1,y2,rfl,aV,aX,dL,dI⟩,hO⟩
  have hO3:ik (Value.slice a1 c.cells.length q1).ownBlock (Value.slice a2 c.words.length q2).ownBlock w w3:=fu (dx zB) hO
  have df:=hO.2.2.2.1;(try (simp at df));have zz:=vE hO (b:=w.heap.size);(try simp [go_sem] at zz);replace bX:=dF zz;clear zz
  clear hO
  obtain ⟨⟨aI,aJ⟩,dP,dQ⟩:=sO (w:=w) (w.heap.size+1+1+1+1) dL dI b1 b2;obtain ⟨ya,yp,rfl,_⟩:=aV.seg;obtain ⟨yb,yq,rfl,_⟩:=aX.seg
  go_wp2
  try rw [Exit.noGoto_ret]
  refine rE Tryz.results268 rfl (az x.1 (.slice ya x.1.cells.length yp) (.slice yb x.1.words.length yq) tY) rfl (aj x.2.1 tY) ⟨⟨_,_,rfl,?_,?_,dP,dQ⟩,by exact zN⟩
  · exact zP aV aV aI
  · exact zP aX aX aJ
theorem vU (c:Ch) (h:Ha) (v1 v2:Value) (lo:Nat) (w:World) (h1:ag w lo v1 c.cells) (h2:ai w lo v2 c.words) (hg:c.sent≤h.grow) (hcall:dO h.code h.elem=true) (hnx:0≤h.nxt∧h.nxt≤2) (hq:(h.pos == 17)=true) (hk:(h.code != 2)=false) :
    cu 268 c h v1 v2 lo w ((c,dC h,true)):=by
  obtain ⟨y0,hy0⟩:∃ y0,dC h=y0:=⟨_,rfl⟩
  have GR:=Lib.hid fun W=>l8 h W hcall hnx
  rw [hy0] at GR
  rw [hy0]
  clear hy0 hcall hnx
  have n16:(h.pos == 16)=false:=by simp at hq ⊢;omega
  obtain ⟨a1,q1,a2,q2,rfl,rfl,O1,O2,b1,b2⟩:=ql h1 h2
  clear h1 h2
  have o1:=O1.out
  have o2:=O2.out
  go_enter Tryz.func268,Tryz.ntmps268
  go_wp2
  go_step3
  go_wp2
  go_step3
  go_wp2
  refine wp_loop_rounds 2 ?_
  rw [rounds_succ]
  go_wp2_with fail
  rw [rounds_succ]
  go_wp2_with fail
  go_region_held3 (fun w'=>hp w' w.heap.size=some (.cells (af c (.slice a1 c.cells.length q1) (.slice a2 c.words.length q2)) 31)∧hp w' (w.heap.size+1)=some (.cells (aa h) 49))
    (first|(simp [*,go_sem]))
    (first|((go_at_call 271;refine ax w zB fun bb=>?_;refine (GR.out _).mono ?_;rintro _ w2 ⟨rfl,hbw2⟩;obtain ⟨dE,bu,zz⟩:=dZ bb hbw2 (b:=w.heap.size);(try simp at bu);(try simp [go_sem] at zz);replace bX:=dF zz;clear zz;have eu:=dE;clear hbw2 bb);have r1:=own_below o1 eu;have r2:=own_below o2 eu))
  go_wp2
  try rw [Exit.noGoto_ret]
  refine rE Tryz.results268 rfl (az c (.slice a1 c.cells.length q1) (.slice a2 c.words.length q2) tZ) rfl (aj y0 tZ) ⟨⟨_,_,rfl,?_,?_,ak _ _,ak _ _⟩,dx zB⟩
  · exact zO r1 o1
  · exact zO r2 o2
theorem vV (c:Ch) (h:Ha) (v1 v2:Value) (lo:Nat) (w:World) (h1:ag w lo v1 c.cells) (h2:ai w lo v2 c.words) (hg:¬ c.sent≤h.grow) (hq:(h.pos == 17)=true) (hk:(h.code != 2)=false) :
    cu 268 c h v1 v2 lo w ((c,{ h with pos:=18 },true)):=by
  have n16:(h.pos == 16)=false:=by simp at hq ⊢;omega
  obtain ⟨a1,q1,a2,q2,rfl,rfl,O1,O2,b1,b2⟩:=ql h1 h2
  clear h1 h2
  have o1:=O1.out
  have o2:=O2.out
  go_enter Tryz.func268,Tryz.ntmps268
  go_wp2
  go_step3
  go_wp2
  go_step3
  go_wp2
  refine wp_loop_rounds 2 ?_
  rw [rounds_succ]
  go_wp2_with fail
  go_region_held3 (fun w'=>hp w' w.heap.size=some (.cells (af c (.slice a1 c.cells.length q1) (.slice a2 c.words.length q2)) 31)∧hp w' (w.heap.size+1)=some (.cells (aa h) 49))
    (first|(simp [*,go_sem]))
    (first|((go_at_call 247;refine ax w zB fun bb=>?_;refine (cZ _ _ _).mono ?_;rintro _ w2 ⟨rfl,hbw2⟩;obtain ⟨dE,bu,zz⟩:=dZ bb hbw2 (b:=w.heap.size);(try simp at bu);(try simp [go_sem] at zz);replace bX:=dF zz;clear zz;have eu:=dE;clear hbw2 bb);have r1:=own_below o1 eu;have r2:=own_below o2 eu))
  go_wp2
  try rw [Exit.noGoto_ret]
  refine rE Tryz.results268 rfl (az c (.slice a1 c.cells.length q1) (.slice a2 c.words.length q2) tZ) rfl (aj { h with pos:=18 } tZ) ⟨⟨_,_,rfl,?_,?_,ak _ _,ak _ _⟩,dx zB⟩
  · exact zO r1 o1
  · exact zO r2 o2
theorem uI (c:Ch) (h:Ha) (v1 v2:Value) (lo:Nat) (w:World) (h1:ag w lo v1 c.cells) (h2:ai w lo v2 c.words) (hc0:0≤h.grow) (hc1:h.grow<c.cells.length) (hn:(cellAt c h.grow).s=5) (hq:(h.pos == 18)=true) (hk:(h.code != 2)=false) :
    cu 268 c h v1 v2 lo w ((c,h,false)):=by
  have n16:(h.pos == 16)=false:=by simp at hq ⊢;omega
  have n17:(h.pos == 17)=false:=by simp at hq ⊢;omega
  obtain ⟨i,hci⟩:∃ i:Nat,h.grow=(i:Int):=⟨h.grow.toNat,by omega⟩
  have hi:i<c.cells.length:=by omega
  have hi0:(0:Int)≤(i:Int):=by omega
  have hi1:(i:Int)<(c.cells.length:Int):=by omega
  have hne:=h1.ne h2
  obtain ⟨a2,q2,rfl,_⟩:=h2.seg
  obtain ⟨g,q1,rfl,hlo1,hlt,hcell,hfr⟩:=h1.open1 hi
  have O1:=Lib.hid h1
  have O2:=Lib.hid h2
  have jI:g<w.heap.size+1:=by omega
  have jJ:g<w.heap.size+1+1:=by omega
  have jK:g<w.heap.size+1+1+1:=by omega
  have vH:g≠w.heap.size:=by omega
  have vI:g≠w.heap.size+1:=by omega
  have vJ:g≠w.heap.size+1+1:=by omega
  have vK:g≠w.heap.size+1+1+1:=by omega
  have xC:w.heap.size≠g:=by omega
  have xD:w.heap.size+1≠g:=by omega
  have xE:w.heap.size+1+1≠g:=by omega
  have xG:w.heap.size+1+1+1≠g:=by omega
  have hx:Hid (cellAt c h.grow=c.cells.getD i ⟨0,0,0⟩):=by simp [cellAt,Hid,hci]
  have c0:=hcell 0 tO
  have c1:=hcell 1 tO
  have c2:=hcell 2 tO
  simp only [C3.val,Nat.add_zero] at c0 c1 c2
  have ex:=hx.out
  rw [ex] at hn
  generalize c.cells.getD i ⟨0,0,0⟩=x at *
  obtain ⟨s,e,t⟩:=x
  simp only at hn c0 c1 c2
  subst hn
  clear hx ex hcell h1 h2
  have o1:=O1.out
  have o2:=O2.out
  go_enter Tryz.func268,Tryz.ntmps268
  go_wp2
  go_step3
  go_wp2
  go_step3
  go_wp2
  refine wp_loop_rounds 2 ?_
  rw [rounds_succ]
  have r1:=o1
  have r2:=o2
  go_wp2_with fail
  go_region
  go_wp2
  try rw [Exit.noGoto_ret]
  refine rE Tryz.results268 rfl (az c (.slice (some ⟨g,0,none⟩) c.cells.length q1) (.slice a2 c.words.length q2) tZ) rfl (aj h (by simp [go_sem, *] <;> first|rfl|simp [bM,hci])) ⟨⟨_,_,rfl,?_,?_,ak _ _,ak _ _⟩,dx zB⟩
  · exact zO r1 o1
  · exact zO r2 o2
theorem uJ (c:Ch) (h:Ha) (v1 v2:Value) (lo:Nat) (w:World) (h1:ag w lo v1 c.cells) (h2:ai w lo v2 c.words) (hc0:0≤h.grow) (hc1:h.grow<c.cells.length) (hn:(cellAt c h.grow).s=0) (hq:(h.pos == 18)=true) (hk:(h.code != 2)=false) :
    cu 268 c h v1 v2 lo w ((c,{ bM h (cellAt c h.grow) with pos:=19 },true)):=by
  have n16:(h.pos == 16)=false:=by simp at hq ⊢;omega
  have n17:(h.pos == 17)=false:=by simp at hq ⊢;omega
  obtain ⟨i,hci⟩:∃ i:Nat,h.grow=(i:Int):=⟨h.grow.toNat,by omega⟩
  have hi:i<c.cells.length:=by omega
  have hi0:(0:Int)≤(i:Int):=by omega
  have hi1:(i:Int)<(c.cells.length:Int):=by omega
  have hne:=h1.ne h2
  obtain ⟨a2,q2,rfl,_⟩:=h2.seg
  obtain ⟨g,q1,rfl,hlo1,hlt,hcell,hfr⟩:=h1.open1 hi
  have O1:=Lib.hid h1
  have O2:=Lib.hid h2
  have jI:g<w.heap.size+1:=by omega
  have jJ:g<w.heap.size+1+1:=by omega
  have jK:g<w.heap.size+1+1+1:=by omega
  have vH:g≠w.heap.size:=by omega
  have vI:g≠w.heap.size+1:=by omega
  have vJ:g≠w.heap.size+1+1:=by omega
  have vK:g≠w.heap.size+1+1+1:=by omega
  have xC:w.heap.size≠g:=by omega
  have xD:w.heap.size+1≠g:=by omega
  have xE:w.heap.size+1+1≠g:=by omega
  have xG:w.heap.size+1+1+1≠g:=by omega
  have hx:Hid (cellAt c h.grow=c.cells.getD i ⟨0,0,0⟩):=by simp [cellAt,Hid,hci]
  have c0:=hcell 0 tO
  have c1:=hcell 1 tO
  have c2:=hcell 2 tO
  simp only [C3.val,Nat.add_zero] at c0 c1 c2
  have ex:=hx.out
  rw [ex] at hn ⊢
  generalize c.cells.getD i ⟨0,0,0⟩=x at *
  obtain ⟨s,e,t⟩:=x
  simp only at hn c0 c1 c2
  subst hn
  clear hx ex hcell h1 h2
  have o1:=O1.out
  have o2:=O2.out
  go_enter Tryz.func268,Tryz.ntmps268
  go_wp2
  go_step3
  go_wp2
  go_step3
  go_wp2
  refine wp_loop_rounds 2 ?_
  rw [rounds_succ]
  go_wp2_with fail;refine ax w zB fun bb=>?_;refine (jm h 0 e t _).mono ?_;rintro _ w1 ⟨rfl,ah⟩;obtain ⟨aW,ay,zz⟩:=wU bb ah (b:=w.heap.size);(try simp at ay);(try simp [go_sem] at zz);replace bX:=jL zz;clear zz;have dG:=aW;clear ah bb
  have p1:=own_below o1 dG
  have p2:=own_below o2 dG
  obtain ⟨k0,k1,k2,k3⟩:=kZ (a:=w.heap.size) (b:=w1.heap.size)
  have k4:w.heap.size+1+1+1+1<w1.heap.size:=by omega
  go_wp2_with fail
  go_region_held3 (fun w'=>hp w' w.heap.size=some (.cells (af c (.slice (some ⟨g,0,none⟩) c.cells.length q1) (.slice a2 c.words.length q2)) 31)∧hp w' (w.heap.size+1)=some (.cells (aa { h with grow:=(i:Int),seen:=0,wait:=t }) 49))
    (first|(simp [*,go_sem]))
    (first|((go_at_call 247;refine ax w zB fun bb=>?_;refine (cZ _ _ _).mono ?_;rintro _ w2 ⟨rfl,hbw2⟩;obtain ⟨dE,bu,zz⟩:=dZ bb hbw2 (b:=w.heap.size);(try simp at bu);(first|simp [go_sem,bX,k0,k1,k2,k3,k4] at zz|simp [go_sem] at zz|skip);replace bX:=dF zz;clear zz;have eu:=dE;clear hbw2 bb);have r1:=own_below o1 eu;have r2:=own_below o2 eu))
  go_wp2
  try rw [Exit.noGoto_ret]
  refine rE Tryz.results268 rfl (az c (.slice (some ⟨g,0,none⟩) c.cells.length q1) (.slice a2 c.words.length q2) tZ) rfl (aj { bM h ⟨0,e,t⟩ with pos:=19 } (by simp [go_sem, *] <;> first|rfl|simp [bM,hci])) ⟨⟨_,_,rfl,?_,?_,ak _ _,ak _ _⟩,dx zB⟩
  · exact zO r1 o1
  · exact zO r2 o2
theorem uK (c:Ch) (h:Ha) (v1 v2:Value) (lo:Nat) (w:World) (h1:ag w lo v1 c.cells) (h2:ai w lo v2 c.words) (hc0:0≤h.grow) (hc1:h.grow<c.cells.length) (hn:(cellAt c h.grow).s=3) (hq:(h.pos == 18)=true) (hk:(h.code != 2)=false) :
    cu 268 c h v1 v2 lo w ((c,{ bM h (cellAt c h.grow) with pos:=19 },true)):=by
  have n16:(h.pos == 16)=false:=by simp at hq ⊢;omega
  have n17:(h.pos == 17)=false:=by simp at hq ⊢;omega
  obtain ⟨i,hci⟩:∃ i:Nat,h.grow=(i:Int):=⟨h.grow.toNat,by omega⟩
  have hi:i<c.cells.length:=by omega
  have hi0:(0:Int)≤(i:Int):=by omega
  have hi1:(i:Int)<(c.cells.length:Int):=by omega
  have hne:=h1.ne h2
  obtain ⟨a2,q2,rfl,_⟩:=h2.seg
  obtain ⟨g,q1,rfl,hlo1,hlt,hcell,hfr⟩:=h1.open1 hi
  have O1:=Lib.hid h1
  have O2:=Lib.hid h2
  have jI:g<w.heap.size+1:=by omega
  have jJ:g<w.heap.size+1+1:=by omega
  have jK:g<w.heap.size+1+1+1:=by omega
  have vH:g≠w.heap.size:=by omega
  have vI:g≠w.heap.size+1:=by omega
  have vJ:g≠w.heap.size+1+1:=by omega
  have vK:g≠w.heap.size+1+1+1:=by omega
  have xC:w.heap.size≠g:=by omega
  have xD:w.heap.size+1≠g:=by omega
  have xE:w.heap.size+1+1≠g:=by omega
  have xG:w.heap.size+1+1+1≠g:=by omega
  have hx:Hid (cellAt c h.grow=c.cells.getD i ⟨0,0,0⟩):=by simp [cellAt,Hid,hci]
  have c0:=hcell 0 tO
  have c1:=hcell 1 tO
  have c2:=hcell 2 tO
  simp only [C3.val,Nat.add_zero] at c0 c1 c2
  have ex:=hx.out
  rw [ex] at hn ⊢
  generalize c.cells.getD i ⟨0,0,0⟩=x at *
  obtain ⟨s,e,t⟩:=x
  simp only at hn c0 c1 c2
  subst hn
  clear hx ex hcell h1 h2
  have o1:=O1.out
  have o2:=O2.out
  go_enter Tryz.func268,Tryz.ntmps268
  go_wp2
  go_step3
  go_wp2
  go_step3
  go_wp2
  refine wp_loop_rounds 2 ?_
  rw [rounds_succ]
  go_wp2_with fail;refine ax w zB fun bb=>?_;refine (jm h 3 e t _).mono ?_;rintro _ w1 ⟨rfl,ah⟩;obtain ⟨aW,ay,zz⟩:=wU bb ah (b:=w.heap.size);(try simp at ay);(try simp [go_sem] at zz);replace bX:=jL zz;clear zz;have dG:=aW;clear ah bb
  have p1:=own_below o1 dG
  have p2:=own_below o2 dG
  obtain ⟨k0,k1,k2,k3⟩:=kZ (a:=w.heap.size) (b:=w1.heap.size)
  have k4:w.heap.size+1+1+1+1<w1.heap.size:=by omega
  go_wp2_with fail
  go_region_held3 (fun w'=>hp w' w.heap.size=some (.cells (af c (.slice (some ⟨g,0,none⟩) c.cells.length q1) (.slice a2 c.words.length q2)) 31)∧hp w' (w.heap.size+1)=some (.cells (aa { h with grow:=(i:Int),seen:=3,wait:=t }) 49))
    (first|(simp [*,go_sem]))
    (first|((go_at_call 247;refine ax w zB fun bb=>?_;refine (cZ _ _ _).mono ?_;rintro _ w2 ⟨rfl,hbw2⟩;obtain ⟨dE,bu,zz⟩:=dZ bb hbw2 (b:=w.heap.size);(try simp at bu);(first|simp [go_sem,bX,k0,k1,k2,k3,k4] at zz|simp [go_sem] at zz|skip);replace bX:=dF zz;clear zz;have eu:=dE;clear hbw2 bb);have r1:=own_below o1 eu;have r2:=own_below o2 eu))
  go_wp2
  try rw [Exit.noGoto_ret]
  refine rE Tryz.results268 rfl (az c (.slice (some ⟨g,0,none⟩) c.cells.length q1) (.slice a2 c.words.length q2) tZ) rfl (aj { bM h ⟨3,e,t⟩ with pos:=19 } (by simp [go_sem, *] <;> first|rfl|simp [bM,hci])) ⟨⟨_,_,rfl,?_,?_,ak _ _,ak _ _⟩,dx zB⟩
  · exact zO r1 o1
  · exact zO r2 o2
theorem uL (c:Ch) (h:Ha) (v1 v2:Value) (lo:Nat) (w:World) (h1:ag w lo v1 c.cells) (h2:ai w lo v2 c.words) (hc0:0≤h.grow) (hc1:h.grow<c.cells.length) (hn:(cellAt c h.grow).s=9) (hq:(h.pos == 18)=true) (hk:(h.code != 2)=false) :
    cu 268 c h v1 v2 lo w ((c,{ bM h (cellAt c h.grow) with pos:=16 },true)):=by
  have n16:(h.pos == 16)=false:=by simp at hq ⊢;omega
  have n17:(h.pos == 17)=false:=by simp at hq ⊢;omega
  obtain ⟨i,hci⟩:∃ i:Nat,h.grow=(i:Int):=⟨h.grow.toNat,by omega⟩
  have hi:i<c.cells.length:=by omega
  have hi0:(0:Int)≤(i:Int):=by omega
  have hi1:(i:Int)<(c.cells.length:Int):=by omega
  have hne:=h1.ne h2
  obtain ⟨a2,q2,rfl,_⟩:=h2.seg
  obtain ⟨g,q1,rfl,hlo1,hlt,hcell,hfr⟩:=h1.open1 hi
  have O1:=Lib.hid h1
  have O2:=Lib.hid h2
  have jI:g<w.heap.size+1:=by omega
  have jJ:g<w.heap.size+1+1:=by omega
  have jK:g<w.heap.size+1+1+1:=by omega
  have vH:g≠w.heap.size:=by omega
  have vI:g≠w.heap.size+1:=by omega
  have vJ:g≠w.heap.size+1+1:=by omega
  have vK:g≠w.heap.size+1+1+1:=by omega
  have xC:w.heap.size≠g:=by omega
  have xD:w.heap.size+1≠g:=by omega
  have xE:w.heap.size+1+1≠g:=by omega
  have xG:w.heap.size+1+1+1≠g:=by omega
  have hx:Hid (cellAt c h.grow=c.cells.getD i ⟨0,0,0⟩):=by simp [cellAt,Hid,hci]
  have c0:=hcell 0 tO
  have c1:=hcell 1 tO
  have c2:=hcell 2 tO
  simp only [C3.val,Nat.add_zero] at c0 c1 c2
  have ex:=hx.out
  rw [ex] at hn ⊢
  generalize c.cells.getD i ⟨0,0,0⟩=x at *
  obtain ⟨s,e,t⟩:=x
  simp only at hn c0 c1 c2
  subst hn
  clear hx ex hcell h1 h2
  have o1:=O1.out
  have o2:=O2.out
  go_enter Tryz.func268,Tryz.ntmps268
  go_wp2
  go_step3
  go_wp2
  go_step3
  go_wp2
  refine wp_loop_rounds 2 ?_
  rw [rounds_succ]
  go_wp2_with fail;refine ax w zB fun bb=>?_;refine (jm h 9 e t _).mono ?_;rintro _ w1 ⟨rfl,ah⟩;obtain ⟨aW,ay,zz⟩:=wU bb ah (b:=w.heap.size);(try simp at ay);(try simp [go_sem] at zz);replace bX:=jL zz;clear zz;have dG:=aW;clear ah bb
  have p1:=own_below o1 dG
  have p2:=own_below o2 dG
  obtain ⟨k0,k1,k2,k3⟩:=kZ (a:=w.heap.size) (b:=w1.heap.size)
  have k4:w.heap.size+1+1+1+1<w1.heap.size:=by omega
  go_wp2_with fail
  go_region_held3 (fun w'=>hp w' w.heap.size=some (.cells (af c (.slice (some ⟨g,0,none⟩) c.cells.length q1) (.slice a2 c.words.length q2)) 31)∧hp w' (w.heap.size+1)=some (.cells (aa { h with grow:=(i:Int),seen:=9,wait:=t }) 49))
    (first|(simp [*,go_sem]))
    (first|((go_at_call 247;refine ax w zB fun bb=>?_;refine (cZ _ _ _).mono ?_;rintro _ w2 ⟨rfl,hbw2⟩;obtain ⟨dE,bu,zz⟩:=dZ bb hbw2 (b:=w.heap.size);(try simp at bu);(first|simp [go_sem,bX,k0,k1,k2,k3,k4] at zz|simp [go_sem] at zz|skip);replace bX:=dF zz;clear zz;have eu:=dE;clear hbw2 bb);have r1:=own_below o1 eu;have r2:=own_below o2 eu))
  go_wp2
  try rw [Exit.noGoto_ret]
  refine rE Tryz.results268 rfl (az c (.slice (some ⟨g,0,none⟩) c.cells.length q1) (.slice a2 c.words.length q2) tZ) rfl (aj { bM h ⟨9,e,t⟩ with pos:=16 } (by simp [go_sem, *] <;> first|rfl|simp [bM,hci])) ⟨⟨_,_,rfl,?_,?_,ak _ _,ak _ _⟩,dx zB⟩
  · exact zO r1 o1
  · exact zO r2 o2
theorem uM (c:Ch) (h:Ha) (v1 v2:Value) (lo:Nat) (w:World) (h1:ag w lo v1 c.cells) (h2:ai w lo v2 c.words) (hc0:0≤h.grow) (hc1:h.grow<c.cells.length) (s5:((cellAt c h.grow).s == 5)=false) (s0:((cellAt c h.grow).s == 0)=false) (s3:((cellAt c h.grow).s == 3)=false) (s9:((cellAt c h.grow).s == 9)=false) (hcall:dO h.code h.elem=true) (hnx:0≤h.nxt∧h.nxt≤2) (hq:(h.pos == 18)=true) (hk:(h.code != 2)=false) :
    cu 268 c h v1 v2 lo w ((c,dC (bM h (cellAt c h.grow)),true)):=by
  have n16:(h.pos == 16)=false:=by simp at hq ⊢;omega
  have n17:(h.pos == 17)=false:=by simp at hq ⊢;omega
  obtain ⟨i,hci⟩:∃ i:Nat,h.grow=(i:Int):=⟨h.grow.toNat,by omega⟩
  have hi:i<c.cells.length:=by omega
  have hi0:(0:Int)≤(i:Int):=by omega
  have hi1:(i:Int)<(c.cells.length:Int):=by omega
  have hne:=h1.ne h2
  obtain ⟨a2,q2,rfl,_⟩:=h2.seg
  obtain ⟨g,q1,rfl,hlo1,hlt,hcell,hfr⟩:=h1.open1 hi
  have O1:=Lib.hid h1
  have O2:=Lib.hid h2
  have jI:g<w.heap.size+1:=by omega
  have jJ:g<w.heap.size+1+1:=by omega
  have jK:g<w.heap.size+1+1+1:=by omega
  have vH:g≠w.heap.size:=by omega
  have vI:g≠w.heap.size+1:=by omega
  have vJ:g≠w.heap.size+1+1:=by omega
  have vK:g≠w.heap.size+1+1+1:=by omega
  have xC:w.heap.size≠g:=by omega
  have xD:w.heap.size+1≠g:=by omega
  have xE:w.heap.size+1+1≠g:=by omega
  have xG:w.heap.size+1+1+1≠g:=by omega
  have hx:Hid (cellAt c h.grow=c.cells.getD i ⟨0,0,0⟩):=by simp [cellAt,Hid,hci]
  have c0:=hcell 0 tO
  have c1:=hcell 1 tO
  have c2:=hcell 2 tO
  simp only [C3.val,Nat.add_zero] at c0 c1 c2
  have ex:=hx.out
  rw [ex] at s5 s0 s3 s9 ⊢
  generalize c.cells.getD i ⟨0,0,0⟩=x at *
  obtain ⟨s,e,t⟩:=x
  simp only at s5 s0 s3 s9 c0 c1 c2
  clear hx ex hcell h1 h2
  obtain ⟨y0,hy0⟩:∃ y0,dC { h with grow:=(i:Int),seen:=s,wait:=t }=y0:=⟨_,rfl⟩
  have GR:=Lib.hid fun W=>l8 { h with grow:=(i:Int),seen:=s,wait:=t } W hcall hnx
  rw [show bM h ⟨s,e,t⟩={ h with grow:=(i:Int),seen:=s,wait:=t } by rw [← hci];rfl]
  rw [hy0] at GR
  rw [hy0]
  clear hy0 hcall hnx
  have o1:=O1.out
  have o2:=O2.out
  go_enter Tryz.func268,Tryz.ntmps268
  go_wp2
  go_step3
  go_wp2
  go_step3
  go_wp2
  refine wp_loop_rounds 2 ?_
  rw [rounds_succ]
  go_wp2_with fail;refine ax w zB fun bb=>?_;refine (jm h s e t _).mono ?_;rintro _ w1 ⟨rfl,ah⟩;obtain ⟨aW,ay,zz⟩:=wU bb ah (b:=w.heap.size);(try simp at ay);(try simp [go_sem] at zz);replace bX:=jL zz;clear zz;have dG:=aW;clear ah bb
  have p1:=own_below o1 dG
  have p2:=own_below o2 dG
  obtain ⟨k0,k1,k2,k3⟩:=kZ (a:=w.heap.size) (b:=w1.heap.size)
  have k4:w.heap.size+1+1+1+1<w1.heap.size:=by omega
  go_wp2_with fail
  rw [rounds_succ]
  go_wp2_with fail
  go_region_held3 (fun w'=>hp w' w.heap.size=some (.cells (af c (.slice (some ⟨g,0,none⟩) c.cells.length q1) (.slice a2 c.words.length q2)) 31)∧hp w' (w.heap.size+1)=some (.cells (aa { h with grow:=(i:Int),seen:=s,wait:=t }) 49))
    (first|(simp [*,go_sem]))
    (first|((go_at_call 271;refine ax w zB fun bb=>?_;refine (GR.out _).mono ?_;rintro _ w2 ⟨rfl,hbw2⟩;obtain ⟨dE,bu,zz⟩:=dZ bb hbw2 (b:=w.heap.size);(try simp at bu);(first|simp [go_sem,bX,k0,k1,k2,k3,k4] at zz|simp [go_sem] at zz|skip);replace bX:=dF zz;clear zz;have eu:=dE;clear hbw2 bb);have r1:=own_below o1 eu;have r2:=own_below o2 eu))
  go_wp2
  try rw [Exit.noGoto_ret]
  refine rE Tryz.results268 rfl (az c (.slice (some ⟨g,0,none⟩) c.cells.length q1) (.slice a2 c.words.length q2) tZ) rfl (aj y0 (by simp [go_sem, *] <;> first|rfl|simp [bM,hci])) ⟨⟨_,_,rfl,?_,?_,ak _ _,ak _ _⟩,dx zB⟩
  · exact zO r1 o1
  · exact zO r2 o2
theorem vW (c:Ch) (h:Ha) (v1 v2:Value) (lo:Nat) (w:World) (h1:ag w lo v1 c.cells) (h2:ai w lo v2 c.words) (hc0:0≤h.grow) (hc1:h.grow<c.cells.length) (hs:(h.seen != 0)=true) (hq:(h.pos == 19)=true) (hk:(h.code != 2)=false) :
    cu 268 c h v1 v2 lo w (mQ c h):=by
  have T:=Lib.hid fun W a b=>yS c h v1 v2 lo W a b hc0 hc1
  change Hid (∀ W,_→_→Calls _ _ _ _ (fun r w'=>cz W w' lo v1 v2 (mQ c h) r)) at T
  clear hc0 hc1
  have n16:(h.pos == 16)=false:=by simp at hq ⊢;omega
  have n17:(h.pos == 17)=false:=by simp at hq ⊢;omega
  have n18:(h.pos == 18)=false:=by simp at hq ⊢;omega
  generalize mQ c h=x at *
  obtain ⟨a1,q1,a2,q2,rfl,rfl,o1,o2,b1,b2,m1,m2,m10,m20,m11,m21,m12,m22,m13,m23⟩:=Cu h1 h2
  clear h1 h2
  go_enter Tryz.func268,Tryz.ntmps268
  go_wp2
  go_step3
  go_wp2
  go_step3
  go_wp2
  refine wp_loop_rounds 2 ?_
  rw [rounds_succ]
  go_wp2_with fail
  refine (T.out _ (zO o1 o1) (zO o2 o2)).mono ?_
  rintro _ w3 ⟨⟨y1,y2,rfl,aV,aX,dL,dI⟩,hO⟩
  have hO3:ik (Value.slice a1 c.cells.length q1).ownBlock (Value.slice a2 c.words.length q2).ownBlock w w3:=fu (dx zB) hO
  have df:=hO.2.2.2.1;(try (simp at df));have zz:=vE hO (b:=w.heap.size);(try simp [go_sem] at zz);replace bX:=dF zz;clear zz
  clear hO
  obtain ⟨⟨aI,aJ⟩,dP,dQ⟩:=sO (w:=w) (w.heap.size+1+1+1+1) dL dI b1 b2;obtain ⟨ya,yp,rfl,_⟩:=aV.seg;obtain ⟨yb,yq,rfl,_⟩:=aX.seg
  go_wp2
  try rw [Exit.noGoto_ret]
  refine rE Tryz.results268 rfl (az x.1 (.slice ya x.1.cells.length yp) (.slice yb x.1.words.length yq) tY) rfl (aj x.2.1 tY) ⟨⟨_,_,rfl,?_,?_,dP,dQ⟩,by exact zN⟩
  · exact zP aV aV aI
  · exact zP aX aX aJ
theorem oz (c:Ch) (h:Ha) (v1 v2:Value) (lo:Nat) (w:World) (h1:ag w lo v1 c.cells) (h2:ai w lo v2 c.words) (hc0:0≤h.grow) (hc1:h.grow<c.cells.length) (hs:(h.seen != 0)=false) :
    (∀ (hcall:dO h.code h.elem=true) (hnx:0≤h.nxt∧h.nxt≤2) (ht:bn c h.grow 0 1 0=true) (hq:(h.pos == 19)=true) (hk:(h.code != 2)=false),Calls Tryz.prog 268 #[.agg (af c v1 v2),.agg (aa h)] w fun r w'=>cz w w' lo v1 v2 ((aY c h.grow 0 1 0,dC h,true)) r) ∧
    (∀ (ht:bn c h.grow 0 1 0=false) (hq:(h.pos == 19)=true) (hk:(h.code != 2)=false),Calls Tryz.prog 268 #[.agg (af c v1 v2),.agg (aa h)] w fun r w'=>cz w w' lo v1 v2 ((aY c h.grow 0 1 0,{ h with pos:=18 },true)) r):=by
  constructor
  case' left =>
    intro hcall hnx ht hq hk
    have mA:Hid (0=0):=rfl
  case' right =>
    intro ht hq hk
    have mB:Hid (0=0):=rfl
  all_goals
    have n16:(h.pos == 16)=false:=by simp at hq ⊢;omega
    have n17:(h.pos == 17)=false:=by simp at hq ⊢;omega
    have n18:(h.pos == 18)=false:=by simp at hq ⊢;omega
    obtain ⟨i,hci⟩:∃ i:Nat,h.grow=(i:Int):=⟨h.grow.toNat,by omega⟩
    have hi:i<c.cells.length:=by omega
    have T:=Lib.hid fun W a b=>jO c i 0 1 0 v1 v2 lo W a b hi
    have ht2:=ht
    rw [hci] at ht2
    rw [ht2] at T
    have e0:aY c h.grow 0 1 0=aY c i 0 1 0:=by rw [hci]
    rw [e0]
    first
    | (replace mA:=mA
       obtain ⟨y0,hy0⟩:∃ y0,dC h=y0:=⟨_,rfl⟩
       have GR:=Lib.hid fun W=>l8 h W hcall hnx
       rw [hy0] at GR
       rw [hy0]
       clear hy0 hcall hnx)
    | replace mB:=mB
    have b1:=jF h1
    have b2:=jF h2
    have m1:=mG b1
    have m2:=mG b2
    have m10:=m1 (w.heap.size) tO
    have m20:=m2 (w.heap.size) tO
    have m11:=m1 (w.heap.size+1) tO
    have m21:=m2 (w.heap.size+1) tO
    have m12:=m1 (w.heap.size+1+1) tO
    have m22:=m2 (w.heap.size+1+1) tO
    have m13:=m1 (w.heap.size+1+1+1) tO
    have m23:=m2 (w.heap.size+1+1+1) tO
    have o1:=h1
    have o2:=h2
    obtain ⟨a1,q1,e1,_⟩:=h1.seg
    obtain ⟨a2,q2,e2,_⟩:=h2.seg
    subst e1 e2
    clear h1 h2 ht ht2 e0 hc0 hc1
    go_enter Tryz.func268,Tryz.ntmps268
    go_wp2
    go_step3
    go_wp2
    go_step3
    go_wp2
    refine wp_loop_rounds 2 ?_
    rw [rounds_succ]
    go_wp2_with fail;refine (T.out _ (zO o1 o1) (zO o2 o2)).mono ?_;rintro _ w1 ⟨rfl,p1,p2,hgw1⟩;have ay:=hgw1.size;(try (simp at ay));have zz:=NU hgw1 (b:=w.heap.size);(try simp [go_sem] at zz);replace bX:=dF zz;clear zz;have jZ:=FV (w:=w) zB hgw1;clear hgw1
    have vw:ik (Value.slice a1 c.cells.length q1).ownBlock (Value.slice a2 c.words.length q2).ownBlock w w1:=lW jZ
    obtain ⟨k0,k1,k2,k3⟩:=kZ (a:=w.heap.size) (b:=w1.heap.size)
    have u1:ag w1 lo (.slice a1 c.cells.length q1) (aY c i 0 1 0).cells:=p1
    have u2:ai w1 lo (.slice a2 c.words.length q2) (aY c i 0 1 0).words:=p2
    clear p1 p2
    go_wp2_with fail
    first
    | (replace mA:=mA
       rw [rounds_succ]
       go_wp2_with fail
       go_region_held3 (fun w'=>hp w' w.heap.size=some (.cells (af c (.slice a1 c.cells.length q1) (.slice a2 c.words.length q2)) 31)∧hp w' (w.heap.size+1)=some (.cells (aa h) 49))
         (first|(simp [*,go_sem]))
         (first|(go_at_call 271;refine (GR.out _).mono ?_;rintro _ w2 ⟨rfl,hbw2⟩;have hO2:ik (Value.slice a1 c.cells.length q1).ownBlock (Value.slice a2 c.words.length q2).ownBlock w w2:=fu zN (dx hbw2);have p1:ag w2 lo (.slice a1 c.cells.length q1) (aY c i 0 1 0).cells:=own_below (zO u1 o1) hbw2;have p2:ai w2 lo (.slice a2 c.words.length q2) c.words:=own_below (zO u2 o2) hbw2;have bu:=hbw2.size;(try simp at bu);have zz:=zT hbw2 (b:=w.heap.size);(first|simp [go_sem,bX,k0,k1,k2,k3] at zz|simp [go_sem] at zz|skip);replace bX:=dF zz;clear zz hbw2)))
    | (replace mB:=mB
       go_region_held3 (fun w'=>hp w' w.heap.size=some (.cells (af c (.slice a1 c.cells.length q1) (.slice a2 c.words.length q2)) 31)∧hp w' (w.heap.size+1)=some (.cells (aa h) 49))
         (first|(simp [*,go_sem]))
         (first|(go_at_call 247;refine (cZ _ _ _).mono ?_;rintro _ w2 ⟨rfl,hbw2⟩;have hO2:ik (Value.slice a1 c.cells.length q1).ownBlock (Value.slice a2 c.words.length q2).ownBlock w w2:=fu zN (dx hbw2);have p1:ag w2 lo (.slice a1 c.cells.length q1) (aY c i 0 1 0).cells:=own_below (zO u1 o1) hbw2;have p2:ai w2 lo (.slice a2 c.words.length q2) c.words:=own_below (zO u2 o2) hbw2;have bu:=hbw2.size;(try simp at bu);have zz:=zT hbw2 (b:=w.heap.size);(first|simp [go_sem,bX,k0,k1,k2,k3] at zz|simp [go_sem] at zz|skip);replace bX:=dF zz;clear zz hbw2)))
    go_wp2
    try rw [Exit.noGoto_ret]
    first
    | (replace mA:=mA;refine rE Tryz.results268 rfl (az c (.slice a1 c.cells.length q1) (.slice a2 c.words.length q2) tZ) rfl (aj y0 (by simp [go_sem, *] <;> first|rfl|simp [hci])) ⟨⟨_,_,rfl,?_,?_,ak _ _,ak _ _⟩,by exact zN⟩)
    | (replace mB:=mB;refine rE Tryz.results268 rfl (az c (.slice a1 c.cells.length q1) (.slice a2 c.words.length q2) tZ) rfl (aj { h with pos:=18 } (by simp [go_sem, *] <;> first|rfl|simp [hci])) ⟨⟨_,_,rfl,?_,?_,ak _ _,ak _ _⟩,by exact zN⟩)
    · exact zO p1 o1
    · exact zO p2 o2
theorem vX (c:Ch) (h:Ha) (v1 v2:Value) (lo:Nat) (w:World) (h1:ag w lo v1 c.cells) (h2:ai w lo v2 c.words) (hc0:0≤h.grow) (hc1:h.grow<c.cells.length) (hs:(h.seen != 0)=false) (hcall:dO h.code h.elem=true) (hnx:0≤h.nxt∧h.nxt≤2) (ht:bn c h.grow 0 1 0=true) (hq:(h.pos == 19)=true) (hk:(h.code != 2)=false) :
    Calls Tryz.prog 268 #[.agg (af c v1 v2),.agg (aa h)] w fun r w'=>cz w w' lo v1 v2 ((aY c h.grow 0 1 0,dC h,true)) r:=(oz c h v1 v2 lo w h1 h2 hc0 hc1 hs).1 hcall hnx ht hq hk
theorem uN (c:Ch) (h:Ha) (v1 v2:Value) (lo:Nat) (w:World) (h1:ag w lo v1 c.cells) (h2:ai w lo v2 c.words) (hc0:0≤h.grow) (hc1:h.grow<c.cells.length) (hs:(h.seen != 0)=false) (ht:bn c h.grow 0 1 0=false) (hq:(h.pos == 19)=true) (hk:(h.code != 2)=false) :
    Calls Tryz.prog 268 #[.agg (af c v1 v2),.agg (aa h)] w fun r w'=>cz w w' lo v1 v2 ((aY c h.grow 0 1 0,{ h with pos:=18 },true)) r:=(oz c h v1 v2 lo w h1 h2 hc0 hc1 hs).2 ht hq hk
theorem yT (c:Ch) (h:Ha) (v1 v2:Value) (lo:Nat) (w:World) (h1:ag w lo v1 c.cells) (h2:ai w lo v2 c.words) (hc:aK c=true) (hlo:lo≤w.heap.size) (hk:(h.code != 2)=false) (hq:(h.pos == 20)=true) :
    cu 268 c h v1 v2 lo w (zU c { h with pos:=21 } { h with pos:=22 }):=by
  have T0:=fun W a b hl=>r9 c { h with pos:=21 } { h with pos:=22 } v1 v2 lo W a b hc hl
  change ∀ W,_→_→_→Calls _ _ _ _ (fun r w'=>StepB W w' lo v1 v2 (zU c { h with pos:=21 } { h with pos:=22 }) r) at T0
  clear hc
  have n16:(h.pos == 16)=false:=by simp at hq ⊢;omega
  have n17:(h.pos == 17)=false:=by simp at hq ⊢;omega
  have n18:(h.pos == 18)=false:=by simp at hq ⊢;omega
  have n19:(h.pos == 19)=false:=by simp at hq ⊢;omega
  generalize zU c { h with pos:=21 } { h with pos:=22 }=x at *
  obtain ⟨a1,q1,a2,q2,rfl,rfl,O1,O2,b1,b2⟩:=ql h1 h2
  clear h1 h2
  have T:=Lib.hid T0
  clear T0
  have o1:=O1.out
  have o2:=O2.out
  go_enter Tryz.func268,Tryz.ntmps268
  go_wp2
  go_step3
  go_wp2
  go_step3
  go_wp2
  refine wp_loop_rounds 2 ?_
  rw [rounds_succ]
  go_upto_region 30 with fail
  refine bI [[],[],[1],[],[3],[0,1,2,3,4],[0,1,2,3,4,5],[0,1,2,3,4,5],[0,1,2,3,4,5],[0,1,2,3,4,5,6],[0,1,2,3,4,5,7],[0,1,2,3,4,5,8]] [99,100,101,102,103,104,105,106,107,6] (fun l s wx=>(ik (Value.slice a1 c.cells.length q1).ownBlock (Value.slice a2 c.words.length q2).ownBlock w wx)∧(w.heap.size+1+1+1+1≤wx.heap.size)∧(hp wx w.heap.size=some (.cells (af c (.slice a1 c.cells.length q1) (.slice a2 c.words.length q2)) 31))∧(hp wx (w.heap.size+1)=some (.cells (aa h) 49))∧(hp wx (w.heap.size+1+1)=some (.cells (cond (l 9) (af x.1 (s 1003) (s 1004)) (af Ch.zero (.slice none 0 0) (.slice none 0 0))) 31))∧(hp wx (w.heap.size+1+1+1)=some (.cells (cond (l 10) (aa x.2.1) (aa Ha.zero)) 49))∧(l 5=false→ag wx lo (.slice a1 c.cells.length q1) c.cells)∧(l 5=false→ai wx lo (.slice a2 c.words.length q2) c.words)∧(l 0=true→s 99=.agg (af c (.slice a1 c.cells.length q1) (.slice a2 c.words.length q2)))∧(l 1=true→s 100=.agg (aa h))∧(l 2=true→s 101=.agg (aa ({ h with pos:=21 })))∧(l 3=true→s 102=.agg (aa h))∧(l 4=true→s 103=.agg (aa ({ h with pos:=22 })))∧(l 5=true→s 104=.tuple #[.agg (af x.1 (s 1003) (s 1004)),.agg (aa x.2.1),.bool x.2.2]∧ag wx lo (s 1003) x.1.cells∧ai wx lo (s 1004) x.1.words∧dW w (.slice a1 c.cells.length q1) (s 1003)∧dW w (.slice a2 c.words.length q2) (s 1004))∧(l 6=true→s 105=.agg (af x.1 (s 1003) (s 1004)))∧(l 7=true→s 106=.agg (aa x.2.1))∧(l 8=true→s 107=.bool x.2.2)∧(l 11=true→s 6=.bool x.2.2)) (by kernel_rfl) (by kernel_rfl) (by kernel_rfl) (fun s=>by (simp only [fill,fC,List.setIfInBounds_toArray,List.set_cons_zero,List.set_cons_succ];rfl)) (fun s=>⟨dx zB,by simp,by simp [go_sem, *],by simp [go_sem, *],by simp [go_sem, *],by simp [go_sem, *],fun _=>by exact zO o1 o1,fun _=>by exact zO o2 o2,nB,nB,nB,nB,nB,nB,nB,nB,nB,nB⟩) ?_ ?_
  refine ⟨?_,?_,?_,?_,?_,?_,?_,?_,?_,?_,?_,?_,trivial⟩;iterate 12 (intro l s wx hl hd hn hf K hK;rotate_left)
  · intro l s wx hall hf
    have hO:=hf.1
    have z1:=hf.2.2.2.2.1
    have z2:=(jC hf).2.1
    rw [hall 9 rfl] at z1
    rw [hall 10 rfl] at z2
    dsimp only [cond] at z1 z2
    obtain ⟨_,X1,X2,F1,F2⟩:=((jC (jD hf)).2.1 (hall 5 rfl))
    have ec:=((jE hf).2 (hall 11 rfl))
    simp only [ec]
    clear ec hf hall
    go_wp2
    try rw [Exit.noGoto_ret]
    exact bodyPost_ret (iV Tryz.results268 rfl (az x.1 _ _ z1) rfl (aj x.2.1 z2)) rfl ⟨⟨_,_,rfl,X1,X2,F1,F2⟩,hO⟩
  · have zc:=hf.out.2.2.1
    go_simp
    refine hK.out (upd s 99 (.agg (af c (.slice a1 c.cells.length q1) (.slice a2 c.words.length q2)))) _ _ (by simp [ae] <;> rfl) (kD (kX (fun _=>rfl) id) hf.out)
  · have zh:=hf.out.2.2.2.1
    go_simp
    refine hK.out (upd s 100 (.agg (aa h))) _ _ (by simp [ae] <;> rfl) (kD (kA (kX (fun _=>rfl) id)) hf.out)
  · have e1:=((jD hf.out).2.1 (hd 1 rfl))
    go_simp
    go_at_call 247
    refine (cZ h 21 _).mono ?_
    rintro _ wy ⟨rfl,hE⟩
    refine hK.out (upd s 101 (.agg (aa ({ h with pos:=21 })))) _ _ (by simp [ae,e1] <;> rfl) (kX (fu hf.out.1 (dx hE)) (kX (Nat.le_trans hf.out.2.1 (Below.size hE)) (kX (dS hf.out.2.2.1 hE) (kX (dS hf.out.2.2.2.1 hE) (kX (dS hf.out.2.2.2.2.1 hE) (kX (dS (jC hf.out).2.1 hE) (kX (fun h9=>own_below ((jC hf.out).2.2.1 h9) hE) (kX (fun h9=>own_below ((jC hf.out).2.2.2.1 h9) hE) (kB (kX (fun _=>rfl) (kB (kX (nU (hn 5 rfl)) (kX (nU (hn 6 rfl)) (kX (nU (hn 7 rfl)) (kX (nU (hn 8 rfl)) (fun _=>nU (hn 11 rfl)))))))))))))))) hf.out)
  · have zh:=hf.out.2.2.2.1
    go_simp
    refine hK.out (upd s 102 (.agg (aa h))) _ _ (by simp [ae] <;> rfl) (kD (kB (kA (kX (fun _=>rfl) id))) hf.out)
  · have e3:=((jD hf.out).2.2.2.1 (hd 3 rfl))
    go_simp
    go_at_call 247
    refine (cZ h 22 _).mono ?_
    rintro _ wy ⟨rfl,hE⟩
    refine hK.out (upd s 103 (.agg (aa ({ h with pos:=22 })))) _ _ (by simp [ae,e3] <;> rfl) (kX (fu hf.out.1 (dx hE)) (kX (Nat.le_trans hf.out.2.1 (Below.size hE)) (kX (dS hf.out.2.2.1 hE) (kX (dS hf.out.2.2.2.1 hE) (kX (dS hf.out.2.2.2.2.1 hE) (kX (dS (jC hf.out).2.1 hE) (kX (fun h9=>own_below ((jC hf.out).2.2.1 h9) hE) (kX (fun h9=>own_below ((jC hf.out).2.2.2.1 h9) hE) (kC (kX (fun _=>rfl) (kX (nU (hn 5 rfl)) (kX (nU (hn 6 rfl)) (kX (nU (hn 7 rfl)) (kX (nU (hn 8 rfl)) (fun _=>nU (hn 11 rfl))))))))))))))) hf.out)
  · have e0:=((jD hf.out).1 (hd 0 rfl))
    have e2:=((jD hf.out).2.2.1 (hd 2 rfl))
    have e4:=((jC (jD hf.out)).1 (hd 4 rfl))
    go_simp
    go_at_call 253
    refine (T.out _ ((jC hf.out).2.2.1 hl) ((jC hf.out).2.2.2.1 hl) (Nat.le_trans hlo hf.out.1.2.2.2.1)).mono ?_
    rintro _ wy ⟨⟨y1,y2,rfl,X1,X2,F1,F2⟩,hE⟩
    have hO:=dx (a:=(Value.slice a1 c.cells.length q1).ownBlock) (b:=(Value.slice a2 c.words.length q2).ownBlock) hE
    refine hK.out (upd (upd (upd s 1003 (y1)) 1004 (y2)) 104 (.tuple #[.agg (af x.1 y1 y2),.agg (aa x.2.1),.bool x.2.2])) _ _ (by simp [ae,e0,e2,e4] <;> rfl) (kX (fu hf.out.1 hO) (kX (Nat.le_trans hf.out.2.1 hO.2.2.2.1) (kX (fA hf.out.2.2.1 hO ((jC hf.out).2.2.1 hl) ((jC hf.out).2.2.2.1 hl) (by decide) (by decide)) (kX (fA hf.out.2.2.2.1 hO ((jC hf.out).2.2.1 hl) ((jC hf.out).2.2.2.1 hl) (by decide) (by decide)) (kX (by (have ee:l 9=false:=hn 9 rfl);(have F:=hf.out.2.2.2.2.1);rw [ee] at F;rw [show upd l 5 true 9=false from ee];exact fA F hO ((jC hf.out).2.2.1 hl) ((jC hf.out).2.2.2.1 hl) (by decide) (by decide)) (kX (by (have ee:l 10=false:=hn 10 rfl);(have F:=(jC hf.out).2.1);rw [ee] at F;rw [show upd l 5 true 10=false from ee];exact fA F hO ((jC hf.out).2.2.1 hl) ((jC hf.out).2.2.2.1 hl) (by decide) (by decide)) (kX (fun h9=>nU h9 (show upd l 5 true 5=true from rfl)) (kX (fun h9=>nU h9 (show upd l 5 true 5=true from rfl)) (kC (kA (kX (fun _=>⟨rfl,X1,X2,fun j hj=>(F1 j hj).imp id (fun h=>Nat.le_trans hf.out.1.2.2.2.1 h),fun j hj=>(F2 j hj).imp id (fun h=>Nat.le_trans hf.out.1.2.2.2.1 h)⟩) (kX (nU (hn 6 rfl)) (kX (nU (hn 7 rfl)) (kX (nU (hn 8 rfl)) (fun _=>nU (hn 11 rfl))))))))))))))) hf.out)
  · have e5:=((jC (jD hf.out)).2.1 (hd 5 rfl)).1
    go_simp
    refine hK.out (upd s 105 (.agg (af x.1 (s 1003) (s 1004)))) _ _ (by simp [ae,e5] <;> rfl) (kD (kC (kB (kX (fun _=>rfl) id))) hf.out)
  · have e5:=((jC (jD hf.out)).2.1 (hd 5 rfl)).1
    go_simp
    refine hK.out (upd s 106 (.agg (aa x.2.1))) _ _ (by simp [ae,e5] <;> rfl) (kD (kC (kB (kA (kX (fun _=>rfl) id)))) hf.out)
  · have e5:=((jC (jD hf.out)).2.1 (hd 5 rfl)).1
    go_simp
    refine hK.out (upd s 107 (.bool x.2.2)) _ _ (by simp [ae,e5] <;> rfl) (kE (kX (fun _=>rfl) id) hf.out)
  · have e6:=((jC (jD hf.out)).2.2.1 (hd 6 rfl))
    have e5:=((jC (jD hf.out)).2.1 (hd 5 rfl))
    have X1:=e5.2.1
    have X2:=e5.2.2.1
    clear e5
    have zr:=hf.out.2.2.2.2.1
    rw [hl] at zr
    dsimp only [cond] at zr
    obtain ⟨xa,xp,ea,_⟩:=X1.seg
    obtain ⟨xb,xq,mq,_⟩:=X2.seg
    rw [ea,mq] at e6
    have zn:hp (bY wx (w.heap.size+1+1) (af x.1 (.slice xa x.1.cells.length xp) (.slice xb x.1.words.length xq))) (w.heap.size+1+1)=some (.cells (af x.1 (s 1003) (s 1004)) 31):=by rw [ea,mq];exact fH zr
    have hO:=hf.out.1
    go_simp
    refine hK.out (s) _ _ (by simp [ae,e6,ea,mq] <;> rfl) (kX (oX hO tO) (kX (Nat.le_trans hf.out.2.1 (Nat.le_of_eq aC.symm)) (kX ((aD tO).trans hf.out.2.2.1) (kX ((aD tO).trans hf.out.2.2.2.1) (kX (zn) (kX ((aD tO).trans (jC hf.out).2.1) (kX (fun h9=>nU h9 (show upd l 9 true 5=true from hd 5 rfl)) (kX (fun h9=>nU h9 (show upd l 9 true 5=true from hd 5 rfl)) (kC (kA (kX (fun h=>(let ⟨e,X1,X2,F1,F2⟩:=(jC (jD hf.out)).2.1 h;⟨e,cO X1 zr (by decide),cO X2 zr (by decide),F1,F2⟩)) id)))))))))) hf.out)
  · have e7:=((jC (jD hf.out)).2.2.2.1 (hd 7 rfl))
    have e5:=((jC (jD hf.out)).2.1 (hd 5 rfl))
    have X1:=e5.2.1
    have X2:=e5.2.2.1
    clear e5
    have zr:=(jC hf.out).2.1
    rw [hl] at zr
    dsimp only [cond] at zr
    have zn:hp (bY wx (w.heap.size+1+1+1) (aa x.2.1)) (w.heap.size+1+1+1)=some (.cells (aa x.2.1) 49):=by exact fH zr
    have hO:=hf.out.1
    go_simp
    refine hK.out (s) _ _ (by simp [ae,e7] <;> rfl) (kX (oX hO tO) (kX (Nat.le_trans hf.out.2.1 (Nat.le_of_eq aC.symm)) (kX ((aD tO).trans hf.out.2.2.1) (kX ((aD tO).trans hf.out.2.2.2.1) (kX ((aD tO).trans hf.out.2.2.2.2.1) (kX (zn) (kX (fun h9=>nU h9 (show upd l 10 true 5=true from hd 5 rfl)) (kX (fun h9=>nU h9 (show upd l 10 true 5=true from hd 5 rfl)) (kC (kA (kX (fun h=>(let ⟨e,X1,X2,F1,F2⟩:=(jC (jD hf.out)).2.1 h;⟨e,cO X1 zr (by decide),cO X2 zr (by decide),F1,F2⟩)) id)))))))))) hf.out)
  · have e8:=((jE hf.out).1 (hd 8 rfl))
    go_simp
    refine hK.out (upd s 6 (.bool x.2.2)) _ _ (by simp [ae,e8] <;> rfl) (kE (kA (fun _=>fun _=>rfl)) hf.out)
theorem yU (c:Ch) (h:Ha) (v1 v2:Value) (lo:Nat) (w:World) (h1:ag w lo v1 c.cells) (h2:ai w lo v2 c.words) (hc0:0≤h.grow) (hc1:h.grow<c.cells.length) (hcall:dO h.code h.elem=true) (hnx:0≤h.nxt∧h.nxt≤2) (hq:(h.pos == 21)=true) (hk:(h.code != 2)=false) :
    cu 268 c h v1 v2 lo w ((bP c h.grow 2,dC h,true)):=by
  have n16:(h.pos == 16)=false:=by simp at hq ⊢;omega
  have n17:(h.pos == 17)=false:=by simp at hq ⊢;omega
  have n18:(h.pos == 18)=false:=by simp at hq ⊢;omega
  have n19:(h.pos == 19)=false:=by simp at hq ⊢;omega
  have n20:(h.pos == 20)=false:=by simp at hq ⊢;omega
  obtain ⟨i,hci⟩:∃ i:Nat,h.grow=(i:Int):=⟨h.grow.toNat,by omega⟩
  have hi:i<c.cells.length:=by omega
  have hi0:(0:Int)≤(i:Int):=by omega
  have hi1:(i:Int)<(c.cells.length:Int):=by omega
  have hne:=h1.ne h2
  obtain ⟨a2,q2,rfl,_⟩:=h2.seg
  obtain ⟨g,q1,rfl,hlo1,hlt,hcell,hfr⟩:=h1.open1 hi
  have O1:=Lib.hid h1
  have O2:=Lib.hid h2
  have jI:g<w.heap.size+1:=by omega
  have jJ:g<w.heap.size+1+1:=by omega
  have jK:g<w.heap.size+1+1+1:=by omega
  have vH:g≠w.heap.size:=by omega
  have vI:g≠w.heap.size+1:=by omega
  have vJ:g≠w.heap.size+1+1:=by omega
  have vK:g≠w.heap.size+1+1+1:=by omega
  have xC:w.heap.size≠g:=by omega
  have xD:w.heap.size+1≠g:=by omega
  have xE:w.heap.size+1+1≠g:=by omega
  have xG:w.heap.size+1+1+1≠g:=by omega
  have hx:Hid (cellAt c h.grow=c.cells.getD i ⟨0,0,0⟩):=by simp [cellAt,Hid,hci]
  have c0:=hcell 0 tO
  have c1:=hcell 1 tO
  have c2:=hcell 2 tO
  simp only [C3.val,Nat.add_zero] at c0 c1 c2
  rw [show bP c h.grow 2=bP c i 2 by rw [hci]]
  have e1:=iq c i 2
  have P1:=fun W (o:ag W lo (.slice (some ⟨g,0,none⟩) c.cells.length q1) c.cells)=>ag.setS o hi 2
  rw [← e1] at P1
  clear hx hcell h1 h2 e1
  generalize c.cells.getD i ⟨0,0,0⟩=x at *
  have o1:=O1.out
  have o2:=O2.out
  obtain ⟨y0,hy0⟩:∃ y0,dC h=y0:=⟨_,rfl⟩
  have GR:=Lib.hid fun W=>l8 h W hcall hnx
  rw [hy0] at GR
  rw [hy0]
  clear hy0 hcall hnx
  go_enter Tryz.func268,Tryz.ntmps268
  go_wp2
  go_step3
  go_wp2
  go_step3
  go_wp2
  refine wp_loop_rounds 2 ?_
  rw [rounds_succ]
  have P2:=aS (p:=⟨g,i*3,none⟩) o2 (hne g rfl) (.int .i64 2)
  go_wp2_with fail
  rw [rounds_succ]
  go_wp2_with fail
  go_region_held3 (fun w'=>hp w' w.heap.size=some (.cells (af c (.slice (some ⟨g,0,none⟩) c.cells.length q1) (.slice a2 c.words.length q2)) 31)∧hp w' (w.heap.size+1)=some (.cells (aa h) 49))
    (first|(simp [*,go_sem]))
    (first|(go_at_call 271;refine (GR.out _).mono ?_;rintro _ w1 ⟨rfl,ah⟩;have jZ:Gr g w w1:=gT zG (pO ah);have ay:=ah.size;(try (simp at ay));have zz:=hQ ah (b:=w.heap.size);(first|(simp [go_sem,dw,dJ,hlt,jI,jJ,jK] at zz)|(simp [go_sem,hlt,jI,jJ,jK] at zz));(try clear dV eD);(try clear dw);have dw:=zz;clear zz;(try clear dJ);obtain ⟨dV,eD,dJ⟩:=bO dw;have zz:=hQ ah (b:=w.heap.size+1);(first|(simp [go_sem,bz,bZ,hlt,jI,jJ,jK] at zz)|(simp [go_sem,hlt,jI,jJ,jK] at zz));(try clear di dz);(try clear bz);have bz:=zz;clear zz;(try clear bZ);obtain ⟨di,dz,bZ⟩:=bO bz;have zz:=hQ ah (b:=w.heap.size+1+1);(first|(simp [go_sem,aH,bq,hlt,jI,jJ,jK] at zz)|(simp [go_sem,hlt,jI,jJ,jK] at zz));(try clear cB cK);(try clear aH);have aH:=zz;clear zz;(try clear bq);obtain ⟨cB,cK,bq⟩:=bO aH;have zz:=hQ ah (b:=w.heap.size+1+1+1);(first|(simp [go_sem,aA,aR,hlt,jI,jJ,jK] at zz)|(simp [go_sem,hlt,jI,jJ,jK] at zz));(try clear bK bL);(try clear aA);have aA:=zz;clear zz;(try clear aR);obtain ⟨bK,bL,aR⟩:=bO aA;have p1:ag w1 lo (.slice (some ⟨g,0,none⟩) c.cells.length q1) (bP c i 2).cells:=own_below (by exact zO (P1 _ o1) o1) ah;have p2:ai w1 lo (.slice a2 c.words.length q2) c.words:=own_below (zO P2 o2) ah))
  go_wp2
  try rw [Exit.noGoto_ret]
  refine rE Tryz.results268 rfl (az (bP c i 2) (.slice (some ⟨g,0,none⟩) c.cells.length q1) (.slice a2 c.words.length q2) tZ) rfl (aj y0 (by simp [go_sem, *] <;> first|rfl|simp [hci])) ⟨⟨_,_,rfl,?_,?_,ak _ _,ak _ _⟩,lW (show w.grownBy _ (some g) from zG)⟩
  · show ag _ lo (.slice (some ⟨g,0,none⟩) c.cells.length q1) (bP c i 2).cells
    exact zO p1 o1
  · show ai _ lo (.slice a2 c.words.length q2) c.words
    exact zO p2 o2
theorem yV (c:Ch) (h:Ha) (v1 v2:Value) (lo:Nat) (w:World) (h1:ag w lo v1 c.cells) (h2:ai w lo v2 c.words) (hc0:0≤h.grow) (hc1:h.grow<c.cells.length) (hq:(h.pos == 22)=true) (hk:(h.code != 2)=false) :
    cu 268 c h v1 v2 lo w ((bP c h.grow 9,{ h with pos:=16 },true)):=by
  have n16:(h.pos == 16)=false:=by simp at hq ⊢;omega
  have n17:(h.pos == 17)=false:=by simp at hq ⊢;omega
  have n18:(h.pos == 18)=false:=by simp at hq ⊢;omega
  have n19:(h.pos == 19)=false:=by simp at hq ⊢;omega
  have n20:(h.pos == 20)=false:=by simp at hq ⊢;omega
  have n21:(h.pos == 21)=false:=by simp at hq ⊢;omega
  obtain ⟨i,hci⟩:∃ i:Nat,h.grow=(i:Int):=⟨h.grow.toNat,by omega⟩
  have hi:i<c.cells.length:=by omega
  have hi0:(0:Int)≤(i:Int):=by omega
  have hi1:(i:Int)<(c.cells.length:Int):=by omega
  have hne:=h1.ne h2
  obtain ⟨a2,q2,rfl,_⟩:=h2.seg
  obtain ⟨g,q1,rfl,hlo1,hlt,hcell,hfr⟩:=h1.open1 hi
  have O1:=Lib.hid h1
  have O2:=Lib.hid h2
  have jI:g<w.heap.size+1:=by omega
  have jJ:g<w.heap.size+1+1:=by omega
  have jK:g<w.heap.size+1+1+1:=by omega
  have vH:g≠w.heap.size:=by omega
  have vI:g≠w.heap.size+1:=by omega
  have vJ:g≠w.heap.size+1+1:=by omega
  have vK:g≠w.heap.size+1+1+1:=by omega
  have xC:w.heap.size≠g:=by omega
  have xD:w.heap.size+1≠g:=by omega
  have xE:w.heap.size+1+1≠g:=by omega
  have xG:w.heap.size+1+1+1≠g:=by omega
  have hx:Hid (cellAt c h.grow=c.cells.getD i ⟨0,0,0⟩):=by simp [cellAt,Hid,hci]
  have c0:=hcell 0 tO
  have c1:=hcell 1 tO
  have c2:=hcell 2 tO
  simp only [C3.val,Nat.add_zero] at c0 c1 c2
  rw [show bP c h.grow 9=bP c i 9 by rw [hci]]
  have e1:=iq c i 9
  have P1:=fun W (o:ag W lo (.slice (some ⟨g,0,none⟩) c.cells.length q1) c.cells)=>ag.setS o hi 9
  rw [← e1] at P1
  clear hx hcell h1 h2 e1
  generalize c.cells.getD i ⟨0,0,0⟩=x at *
  have o1:=O1.out
  have o2:=O2.out
  go_enter Tryz.func268,Tryz.ntmps268
  go_wp2
  go_step3
  go_wp2
  go_step3
  go_wp2
  refine wp_loop_rounds 2 ?_
  rw [rounds_succ]
  have P2:=aS (p:=⟨g,i*3,none⟩) o2 (hne g rfl) (.int .i64 9)
  go_wp2_with fail
  go_region_held3 (fun w'=>hp w' w.heap.size=some (.cells (af c (.slice (some ⟨g,0,none⟩) c.cells.length q1) (.slice a2 c.words.length q2)) 31)∧hp w' (w.heap.size+1)=some (.cells (aa h) 49))
    (first|(simp [*,go_sem]))
    (first|(go_at_call 247;refine (cZ _ _ _).mono ?_;rintro _ w1 ⟨rfl,ah⟩;have jZ:Gr g w w1:=gT zG (pO ah);have ay:=ah.size;(try (simp at ay));have zz:=hQ ah (b:=w.heap.size);(first|(simp [go_sem,dw,dJ,hlt,jI,jJ,jK] at zz)|(simp [go_sem,hlt,jI,jJ,jK] at zz));(try clear dV eD);(try clear dw);have dw:=zz;clear zz;(try clear dJ);obtain ⟨dV,eD,dJ⟩:=bO dw;have zz:=hQ ah (b:=w.heap.size+1);(first|(simp [go_sem,bz,bZ,hlt,jI,jJ,jK] at zz)|(simp [go_sem,hlt,jI,jJ,jK] at zz));(try clear di dz);(try clear bz);have bz:=zz;clear zz;(try clear bZ);obtain ⟨di,dz,bZ⟩:=bO bz;have zz:=hQ ah (b:=w.heap.size+1+1);(first|(simp [go_sem,aH,bq,hlt,jI,jJ,jK] at zz)|(simp [go_sem,hlt,jI,jJ,jK] at zz));(try clear cB cK);(try clear aH);have aH:=zz;clear zz;(try clear bq);obtain ⟨cB,cK,bq⟩:=bO aH;have zz:=hQ ah (b:=w.heap.size+1+1+1);(first|(simp [go_sem,aA,aR,hlt,jI,jJ,jK] at zz)|(simp [go_sem,hlt,jI,jJ,jK] at zz));(try clear bK bL);(try clear aA);have aA:=zz;clear zz;(try clear aR);obtain ⟨bK,bL,aR⟩:=bO aA;have p1:ag w1 lo (.slice (some ⟨g,0,none⟩) c.cells.length q1) (bP c i 9).cells:=own_below (by exact zO (P1 _ o1) o1) ah;have p2:ai w1 lo (.slice a2 c.words.length q2) c.words:=own_below (zO P2 o2) ah))
  go_wp2
  try rw [Exit.noGoto_ret]
  refine rE Tryz.results268 rfl (az (bP c i 9) (.slice (some ⟨g,0,none⟩) c.cells.length q1) (.slice a2 c.words.length q2) tZ) rfl (aj { h with pos:=16 } (by simp [go_sem, *] <;> first|rfl|simp [hci])) ⟨⟨_,_,rfl,?_,?_,ak _ _,ak _ _⟩,lW (show w.grownBy _ (some g) from zG)⟩
  · show ag _ lo (.slice (some ⟨g,0,none⟩) c.cells.length q1) (bP c i 9).cells
    exact zO p1 o1
  · show ai _ lo (.slice a2 c.words.length q2) c.words
    exact zO p2 o2
theorem yX (c:Ch) (h:Ha) (v1 v2:Value) (lo:Nat) (w:World) (h1:ag w lo v1 c.cells) (h2:ai w lo v2 c.words) (hk:(h.code != 2)=true) :
    cu 268 c h v1 v2 lo w (nothing):=by
  have T:=Lib.hid fun W=>fw W lo v1 v2
  generalize nothing=x at *
  obtain ⟨a1,q1,a2,q2,rfl,rfl,o1,o2,b1,b2,m1,m2,m10,m20,m11,m21,m12,m22,m13,m23⟩:=Cu h1 h2
  clear h1 h2
  go_enter Tryz.func268,Tryz.ntmps268
  go_wp2
  go_step3
  go_wp2_with fail
  refine (T.out _).mono ?_
  rintro _ w3 ⟨⟨y1,y2,rfl,aV,aX,dL,dI⟩,aO⟩
  have hO3:ik (Value.slice a1 c.cells.length q1).ownBlock (Value.slice a2 c.words.length q2).ownBlock w w3:=fu (dx zB) (dx aO)
  have df:=aO.size;(try simp at df);have zz:=zT aO (b:=w.heap.size);(try simp [go_sem] at zz);replace bX:=dF zz;clear zz aO
  obtain ⟨⟨aI,aJ⟩,dP,dQ⟩:=sO (w:=w) (w.heap.size+1+1+1+1) dL dI b1 b2;obtain ⟨ya,yp,rfl,_⟩:=aV.seg;obtain ⟨yb,yq,rfl,_⟩:=aX.seg
  go_wp2
  try rw [Exit.noGoto_ret]
  refine rE Tryz.results268 rfl (az x.1 (.slice ya x.1.cells.length yp) (.slice yb x.1.words.length yq) tY) rfl (aj x.2.1 tY) ⟨⟨_,_,rfl,?_,?_,dP,dQ⟩,by exact zN⟩
  · exact zP aV aV aI
  · exact zP aX aX aJ
theorem vY (c:Ch) (h:Ha) (v1 v2:Value) (lo:Nat) (w:World) (h1:ag w lo v1 c.cells) (h2:ai w lo v2 c.words) (hk:(h.code != 2)=false) (n16:(h.pos == 16)=false) (n17:(h.pos == 17)=false) (n18:(h.pos == 18)=false) (n19:(h.pos == 19)=false) (n20:(h.pos == 20)=false) (n21:(h.pos == 21)=false) (n22:(h.pos == 22)=false) (n26:(h.pos == 26)=false) :
    cu 268 c h v1 v2 lo w (nothing):=by
  have T:=Lib.hid fun W=>fw W lo v1 v2
  generalize nothing=x at *
  obtain ⟨a1,q1,a2,q2,rfl,rfl,o1,o2,b1,b2,m1,m2,m10,m20,m11,m21,m12,m22,m13,m23⟩:=Cu h1 h2
  clear h1 h2
  go_enter Tryz.func268,Tryz.ntmps268
  go_wp2
  go_step3
  go_wp2
  go_step3
  go_wp2
  refine wp_loop_rounds 2 ?_
  rw [rounds_succ]
  go_wp2_with fail
  refine (T.out _).mono ?_
  rintro _ w3 ⟨⟨y1,y2,rfl,aV,aX,dL,dI⟩,aO⟩
  have hO3:ik (Value.slice a1 c.cells.length q1).ownBlock (Value.slice a2 c.words.length q2).ownBlock w w3:=fu (dx zB) (dx aO)
  have df:=aO.size;(try simp at df);have zz:=zT aO (b:=w.heap.size);(try simp [go_sem] at zz);replace bX:=dF zz;clear zz aO
  obtain ⟨⟨aI,aJ⟩,dP,dQ⟩:=sO (w:=w) (w.heap.size+1+1+1+1) dL dI b1 b2;obtain ⟨ya,yp,rfl,_⟩:=aV.seg;obtain ⟨yb,yq,rfl,_⟩:=aX.seg
  go_wp2
  try rw [Exit.noGoto_ret]
  refine rE Tryz.results268 rfl (az x.1 (.slice ya x.1.cells.length yp) (.slice yb x.1.words.length yq) tY) rfl (aj x.2.1 tY) ⟨⟨_,_,rfl,?_,?_,dP,dQ⟩,by exact zN⟩
  · exact zP aV aV aI
  · exact zP aX aX aJ
end Go.Proofs.YtffhjmepfojhnaaGreat
