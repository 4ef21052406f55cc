/-
  The program's turn: a step that is made in a world of its own behind a pointer; no condition but the world's numbers' ranges.
-/
import Derived.Test.YtffhjmepfojhnaaGreatR04
import Derived.Test.YtffhjmepfojhnaaGreatR24
import Derived.Test.YtffhjmepfojhnaaGreatR25
import Derived.Test.YtffhjmepfojhnaaGreatR01
import Derived.Test.YtffhjmepfojhnaaGreatR29
import Derived.Test.YtffhjmepfojhnaaGreatR10
import Derived.Test.YtffhjmepfojhnaaGreatR14
import Derived.Test.YtffhjmepfojhnaaGreatR26
set_option maxRecDepth 100000
set_option maxHeartbeats 8000000
set_option linter.unusedSimpArgs false
set_option linter.unusedVariables false
namespace Go.Proofs.YtffhjmepfojhnaaGreat
section
open Go.RowKit
def nI (w:World) (lo B:Nat) (x:Wo):Prop:=∃ (a b d e:Option Addr) (p1 p2 p3 p4:Nat),hp w B=some (.cells (gK x (.slice a x.ch.cells.length p1) (.slice b x.ch.words.length p2) (.slice d x.hands.length p3) (.slice e x.deals.length p4)) 35)∧ry w lo (.slice a x.ch.cells.length p1) (.slice b x.ch.words.length p2) (.slice d x.hands.length p3) (.slice e x.deals.length p4) x∧lo≤B
def Lf (x:Wo):Prop:=0≤x.now∧x.now≤20000∧x.deals.length≤1000
theorem nI.of {w:World} {lo B:Nat} {x:Wo} {v1 v2 v3 v4:Value} (z:hp w B=some (.cells (gK x v1 v2 v3 v4) 35)) (o:ry w lo v1 v2 v3 v4 x) (hl:lo≤B):nI w lo B x:=by
 obtain ⟨a,p,rfl,_⟩:=ag.seg o.1
 obtain ⟨b,q,rfl,_⟩:=ai.seg o.2.1
 obtain ⟨d,r,rfl,_⟩:=gG.seg o.2.2.1
 obtain ⟨e,s,rfl,_⟩:=jb.seg o.2.2.2
 exact ⟨a,b,d,e,p,q,r,s,z,o,hl⟩
theorem K9 {w:World} {k:Nat} {xs:Array Value} {T:TypeId} (h:hp w k=some (.cells xs T)):∀ ad,some (⟨k,0,none⟩:Addr)=some ad→∀ j u,xs.toList[j]?=some u→w.cell? (ad.add j)=some u:=by
 intro ad e j u hu
 simp at e
 subst e
 have e2:(⟨k,0,none⟩:Addr).add j=⟨k,j,none⟩:=by
  simp [Addr.add];intro e;exact e.symm
 rw [e2,(bO h).1 j]
 simpa using hu
theorem KA (a b c d e f g:Int):∀ u ∈ (#[Value.int .i64 a,.int .i64 b,.int .i64 c,.int .i64 d,.int .i64 e,.int .i64 f,.int .i64 g]:Array Value).toList,u.oneCell'=true:=by
 intro u hu
 simp at hu
 rcases hu with rfl|rfl|rfl|rfl|rfl|rfl|rfl <;> rfl
attribute [local simp] aC
attribute [local go_sem ↓] aB aU aL bB aM bC aG aN au aF
attribute [local go_sem ↓] fe
attribute [local go_sem] eB
theorem Ie (c:Ch) (h:Ha) (a b:Option Addr) (p q lo lo':Nat) (w:World) (h1:ag w lo (.slice a c.cells.length p) c.cells) (h2:ai w lo' (.slice b c.words.length q) c.words) :
  Calls Tryz.prog 105 #[.agg (af c (.slice a c.cells.length p) (.slice b c.words.length q)),.agg (aa h)] w fun r w'=>bV w w' (iC c h) r:=by
 obtain ⟨s1,z1,m1⟩:=BK h1 (fun i j hi hj=>iD c.cells i j hi hj)
 obtain ⟨s2,z2,m2⟩:=BK h2 (fun i j hi hj=>ints_at c.words i j hi hj)
 exact Hg c h a b p q w s1 z1 s2 z2 m1 m2
theorem KC (x:Wo) (i B lo:Nat) (w:World) (h:nI w lo B x) (hb:Lf x) (hi:i<x.hands.length) :
  Calls Tryz.prog 55 #[.pointer (some ⟨B,0,none⟩),.int .i64 i] w fun r w'=>(r=.returned (.bool (o6 x i).2)∧nI w' lo B (o6 x i).1)∧Below lo w w':=by
 obtain ⟨a,b,d,e,p1,p2,p3,p4,nJ,⟨o1,o2,o3,o4⟩,hlB⟩:=h
 obtain ⟨g,vg,ev,RQ,lg,hgc,hgf⟩:=gG.open1 o3 hi
 simp at ev
 obtain ⟨rfl,rfl⟩:=ev
 obtain ⟨h0,hh0⟩:∃ h0,Hid (h0=dH x i):=⟨_,rfl⟩
 obtain ⟨S,hS0⟩:∃ S,Hid (S=iC x.ch h0):=⟨_,rfl⟩
 obtain ⟨Y,hY0⟩:∃ Y,Hid (Y=o6 x i):=⟨_,rfl⟩
 have HY:=Lib.hid (show Y=o5 x i S by rw [hY0.out,hS0.out,hh0.out];rfl)
 rw [← hY0.out]
 obtain ⟨hn0,VZ,hdl⟩:=hb
 have Ld:(nP (.pointer (some ⟨g,i*14,none⟩))).run Tryz.prog w=.ok (.agg (aa h0)) w:=by rw [o3.ldAt hi,hh0.out];simp [dH]
 have HST:Hid (∀ (W:World),ag W lo (.slice a x.ch.cells.length p1) x.ch.cells→ai W lo (.slice b x.ch.words.length p2) x.ch.words→Calls Tryz.prog 105 #[.agg (af x.ch (.slice a x.ch.cells.length p1) (.slice b x.ch.words.length p2)),.agg (aa h0)] W fun r w'=>bV W w' S r):=fun W k1 k2=>by rw [hS0.out];exact Ie x.ch h0 a b p1 p2 lo lo W k1 k2
 clear hY0 hS0
 have hi0:(0:Int)≤(i:Int):=by omega
 have hi1:(i:Int)<(x.hands.length:Int):=by omega
 have O1:=Lib.hid o1
 have O2:=Lib.hid o2
 obtain ⟨BU,Ig,KD⟩:=bO nJ
 have hlow:lo≤w.heap.size:=by omega
 simp only [gK] at BU
 go_enter Tryz.func55,Tryz.ntmps55
 go_wp2_with fail
 generalize lV:World.alloc w _=w5
 have dw:hp w5 w.heap.size=some (.cells (aa h0) 49):=by rw [← lV];exact heap_alloc_new _ _
 have ll:Below w.heap.size w w5:=by rw [← lV];exact aQ _ _
 have hs5:w5.heap.size=w.heap.size+1:=by rw [← lV];exact Av _ _
 clear lV Ld BU Ig
 have PQ:=dS nJ ll
 refine bI [[],[0],[0,1],[0,1,2],[],[0,1,2,3,4],[0,1,2,3,4,5],[0,1,2,3,4,5,6],[0,1,2,3,4,5,6],[0,1,2,3,4,5,6],[],[],qB [10],[0,1,2,3,4,5,6,8,11],[0,1,2,3,4,5,6,9]] [18,19,20,21,22,23,17,24,25,26,6,7,8] (fun l s wx=>(Below w5.heap.size w5 wx)∧(l 0=true→s 18=.pointer (some ⟨B,0,none⟩))∧(l 1=true→s 19=.pointer (some ⟨B,0,none⟩))∧(l 2=true→s 20=.pointer (some ⟨B,0,none⟩))∧(l 3=true→s 21=.agg (af x.ch (.slice a x.ch.cells.length p1) (.slice b x.ch.words.length p2)))∧(l 4=true→s 22=.agg (aa h0))∧(l 5=true→s 23=.tuple #[.agg (af S.1 (s 1003) (s 1004)),.agg (aa S.2.1),.bool S.2.2]∧ag wx w5.heap.size (s 1003) S.1.cells∧ai wx w5.heap.size (s 1004) S.1.words)∧(l 6=true→s 17=.tuple #[.agg (af S.1 (s 1003) (s 1004)),.agg (aa S.2.1),.bool S.2.2])∧(l 7=true→s 24=.agg (af S.1 (s 1003) (s 1004)))∧(l 8=true→s 25=.agg (aa S.2.1))∧(l 9=true→s 26=.bool S.2.2)∧(l 10=true→gy wx (s 6) w5.heap.size (cond (l 12) (af S.1 (s 1003) (s 1004)) (af Ch.zero (.slice none 0 0) (.slice none 0 0))) 31)∧(l 11=true→gy wx (s 7) w5.heap.size (cond (l 13) (aa S.2.1) (aa Ha.zero)) 49)∧(l 14=true→s 8=.bool S.2.2)) (by kernel_rfl) (by kernel_rfl) (by kernel_rfl) (fun s=>by (simp only [fill,fC,List.setIfInBounds_toArray,List.set_cons_zero,List.set_cons_succ];rfl)) (fun s=>⟨(Below.refl _ _).drew,nB,nB,nB,nB,nB,nB,nB,nB,nB,nB,nB,nB,nB⟩) ?_ ?_
 refine ⟨?_,?_,?_,?_,?_,?_,?_,?_,?_,?_,?_,?_,?_,?_,?_,trivial⟩;iterate 15 (intro l s wx hl hd hn hf K hK;rotate_left)
 ·intro l s w8 hall hf
  have FM:=hf.1
  obtain ⟨-,IA,IB⟩:=((jC hf).2.2.1 (hall 5 rfl))
  obtain ⟨gc,ea,Wd,jP⟩:=((jD hf).2.2.2.1 (hall 10 rfl))
  obtain ⟨gh,eb,hgh,gY⟩:=((jC (jD hf)).1 (hall 11 rfl))
  have ec:=((jC (jD hf)).2 (hall 14 rfl))
  rw [hall 12 rfl] at jP
  rw [hall 13 rfl] at gY
  dsimp only [cond] at jP gY
  simp only [ea,eb,ec]
  clear ea eb ec hf hall
  generalize s 1003=y1 at *
  generalize s 1004=y2 at *
  have Om:Below w.heap.size w w8:=bT ll FM
  have QN:Below lo w w8:=Om.mono hlow
  replace nJ:=dS nJ Om
  replace dw:=dS dw FM
  replace o1:=own_below o1 Om
  replace o2:=own_below o2 Om
  replace o3:=own_below o3 Om
  replace o4:=own_below o4 Om
  have PR:lo≤w8.heap.size:=Nat.le_trans hlow Om.size
  have We:=FM.size
  clear PQ O1 O2 HST
  obtain ⟨xa,xp,rfl,_⟩:=ag.seg IA
  obtain ⟨xb,xq,rfl,_⟩:=ai.seg IB
  obtain ⟨BU,Ig,_⟩:=bO nJ
  obtain ⟨qg,qG,nS⟩:=bO gY
  have RS:w8.cell? ⟨B,8,none⟩=some (.int .i64 x.now):=BU 8
  have RU:w8.cell? ⟨B,7,none⟩=some (.slice e x.deals.length p4):=BU 7
  have RV:w8.cell? ⟨gh,0,none⟩=some (.int .i64 S.2.1.pos):=qg 0
  clear BU Ig qg qG
  have Xv:g≠B:=dh o3 nJ (by decide) g rfl
  have Xw:B≠gc:=by omega
  have Xx:B≠gh:=by omega
  have Xy:B≠w.heap.size:=by omega
  have Xz:g≠gc:=by omega
  have X0:g≠gh:=by omega
  have X3:g≠w.heap.size:=by omega
  have BOX:nI w8 lo B x:=⟨a,b,some ⟨g,0,none⟩,e,p1,p2,p3,p4,nJ,⟨o1,o2,o3,o4⟩,hlB⟩
  by_cases hno:S.2.2=false∨x.now=20000
  ·obtain rfl:Y=(x,false):=by rw [HY.out];unfold o5;rcases hno with h|h <;> simp [h]
   have RX:S.2.2=false∨(S.2.2=true∧(x.now == 20000)=true):=by
    cases h9:S.2.2 with
    | false=>exact .inl rfl
    | true=>exact .inr ⟨rfl,by rcases hno with h|h <;> simp_all⟩
   clear HY hno
   rcases RX with h9|⟨h9,h10⟩
   all_goals
    go_wp2
    go_ret
    exact ⟨⟨rfl,BOX⟩,QN⟩
  obtain ⟨h9,h10⟩:S.2.2=true∧(x.now == 20000)=false:=by
   constructor
   ·cases h9:S.2.2 with
    | true=>rfl
    | false=>exact absurd (.inl h9) hno
   ·have:¬ x.now=20000:=fun e=>hno (.inr e)
    simp [this]
  clear hno
  by_cases hfull:(S.2.1.pos == 0)=true∧x.deals.length=1000
  ·obtain ⟨f1,f2⟩:=hfull
   obtain rfl:Y=(x,false):=by rw [HY.out];unfold o5;simp [h9,h10,f1,f2]
   have f3:((x.deals.length:Int) == 1000)=true:=by simp [f2]
   clear HY f2
   go_wp2
   go_ret
   exact ⟨⟨rfl,BOX⟩,QN⟩
  have TH:x.now<20000:=by
   have:¬ x.now=20000:=fun e=>by simp [e] at h10
   omega
  rcases (show ((S.2.1.pos == 0)=false∧Hid (0=0))∨((S.2.1.pos == 0)=true∧Hid (1=1)) by cases S.2.1.pos == 0 <;> simp [Hid]) with ⟨hp0,mA⟩|⟨hp0,mB⟩
  case' inl =>
   obtain rfl:Y=({ jl x i S.2.1 with now:=x.now+1,ch:=S.1 },true):=by rw [HY.out];unfold o5;simp [h9,h10,hp0,jl]
   clear HY hfull
  case' inr =>
   have hlen:¬ x.deals.length=1000:=fun e=>hfull ⟨hp0,e⟩
   obtain ⟨de,hde⟩:∃ de,Hid (de=NK x i S.2.1):=⟨_,rfl⟩
   obtain rfl:Y=({ jl x i S.2.1 with now:=x.now+1,ch:=S.1,deals:=x.deals ++ [de] },true):=by rw [HY.out];unfold o5;simp [h9,h10,hp0,hlen,jl,hde.out]
   have f3:((x.deals.length:Int) == 1000)=false:=by simp;omega
   clear HY hfull
  all_goals
   go_wp2_with fail
   (try clear f3)
   clear h9 h10 hp0 RS RU RV
   refine bI [[],[],[1],[1,2],[1,2,3],[],[],[],[0],[0,8],[0,6,8,9],[1,2,3,4,5],[1,2,3,4,5,7,11]] [48,49,50,51,52,53,54,55,56,57,58] (fun l s wx=>(Below lo w wx)∧(w8.heap.size≤wx.heap.size)∧(hp wx B=some (.cells (gK (cond (l 10) { x with ch:=S.1 } x) (cond (l 10) (.slice xa S.1.cells.length xp) (.slice a x.ch.cells.length p1)) (cond (l 10) (.slice xb S.1.words.length xq) (.slice b x.ch.words.length p2)) (.slice (some ⟨g,0,none⟩) x.hands.length p3) (.slice e x.deals.length p4)) 35))∧(hp wx gc=some (.cells (af S.1 (.slice xa S.1.cells.length xp) (.slice xb S.1.words.length xq)) 31))∧(hp wx gh=some (.cells (aa S.2.1) 49))∧(hp wx w.heap.size=some (.cells (aa h0) 49))∧(ag wx w5.heap.size (.slice xa S.1.cells.length xp) S.1.cells)∧(ai wx w5.heap.size (.slice xb S.1.words.length xq) S.1.words)∧(gG wx lo (.slice (some ⟨g,0,none⟩) x.hands.length p3) (cond (l 12) (x.hands.set i S.2.1) x.hands))∧(jb wx lo (.slice e x.deals.length p4) x.deals)∧(l 0=true→s 48=.pointer (some ⟨B,0,none⟩))∧(l 1=true→s 49=.pointer (some ⟨B,0,none⟩))∧(l 2=true→s 50=.pointer (some ⟨B,0,none⟩))∧(l 3=true→s 51=.pointer (some ⟨B,6,none⟩))∧(l 4=true→s 52=.slice (some ⟨g,0,none⟩) x.hands.length p3)∧(l 5=true→s 53=.int .i64 i)∧(l 6=true→s 54=.agg (af S.1 (.slice xa S.1.cells.length xp) (.slice xb S.1.words.length xq)))∧(l 7=true→s 55=.agg (aa S.2.1))∧(l 8=true→s 56=.pointer (some ⟨B,0,none⟩))∧(l 9=true→s 57=.pointer (some ⟨B,0,none⟩))∧(l 11=true→s 58=.pointer (some ⟨g,i*14,none⟩))) (by kernel_rfl) (by kernel_rfl) (by kernel_rfl) (fun s=>by (simp only [fill,fC,List.setIfInBounds_toArray,List.set_cons_zero,List.set_cons_succ];rfl)) (fun s=>⟨QN.drew,Nat.le_refl _,nJ,jP,gY,dw,IA.drew,IB.drew,o3.drew,o4.drew,nB,nB,nB,nB,nB,nB,nB,nB,nB,nB,nB⟩) ?_ ?_
   refine ⟨?_,?_,?_,?_,?_,?_,?_,?_,?_,?_,?_,?_,?_,trivial⟩;iterate 13 (intro l s wx hl hd hn hf K hK;rotate_left)
   ·intro l s wd hall hf
    have hBd:=hf.1
    have hSd:=hf.2.1
    have nK:=hf.2.2.1
    have Oo:=hf.2.2.2.2.1
    have Oq:=(jC hf).2.1
    have x1:=(jC hf).2.2.1
    have x2:=(jC hf).2.2.2.1
    have x3:=(jD hf).1
    have x4:=(jD hf).2.1
    rw [hall 10 rfl] at nK
    rw [hall 12 rfl] at x3
    dsimp only [cond] at nK x3
    clear hf hall
    first
    | (
      have _:=mA
      have Ot:wd.cell? ⟨B,8,none⟩=some (.int .i64 x.now):=(bO nK).1 8
      have Ou:=(bO nK).2.1
      have Ov:=(bO nK).2.2
      go_wp2_with fail
      generalize KE:World.setCell wd _ _=we
      have gr:wd.grownBy we (some B):=by rw [← KE];exact gS (gR B wd) (.inl rfl)
      obtain ⟨xn,Ow⟩:∃ xn,Hid (xn=({ jl x i S.2.1 with now:=x.now+1,ch:=S.1 }:Wo)):=⟨_,rfl⟩
      have KF:xn.now=x.now+1:=by rw [Ow.out]
      have Ni:hp we B=some (.cells (gK xn (.slice xa S.1.cells.length xp) (.slice xb S.1.words.length xq) (.slice (some ⟨g,0,none⟩) x.hands.length p3) (.slice e x.deals.length p4)) 35):=by rw [← KE,fF,nK,Ow.out];rfl
      have k1:=av (World.ownsRow.kept x1 gr (.inr fun e9=>dh x1 nK (by decide) _ e9 rfl)) (lo':=lo) tO
      have k2:=av (World.ownsRow.kept x2 gr (.inr fun e9=>dh x2 nK (by decide) _ e9 rfl)) (lo':=lo) tO
      have k3:=World.ownsRow.kept x3 gr (.inr fun e9=>dh x3 nK (by decide) _ e9 rfl)
      have k4:=World.ownsRow.kept x4 gr (.inr fun e9=>dh x4 nK (by decide) _ e9 rfl)
      have QO:Below lo w we:=iE hBd gr tO (fun q hq=>by simp at hq;omega)
      have hse:=gr.size
      clear KE Ot Ou Ov
      go_ret
      rw [Ow.out] at Ni
      exact ⟨⟨rfl,nI.of Ni ⟨k1,k2,k3,k4⟩ hlB⟩,QO⟩
      done)
    | (
      have _:=mB
      have Ot:wd.cell? ⟨B,8,none⟩=some (.int .i64 x.now):=(bO nK).1 8
      have Ou:=(bO nK).2.1
      have Ov:=(bO nK).2.2
      go_wp2_with fail
      generalize KE:World.setCell wd _ _=we
      have gr:wd.grownBy we (some B):=by rw [← KE];exact gS (gR B wd) (.inl rfl)
      obtain ⟨xn,Ow⟩:∃ xn,Hid (xn=({ jl x i S.2.1 with now:=x.now+1,ch:=S.1 }:Wo)):=⟨_,rfl⟩
      have KF:xn.now=x.now+1:=by rw [Ow.out]
      have Ni:hp we B=some (.cells (gK xn (.slice xa S.1.cells.length xp) (.slice xb S.1.words.length xq) (.slice (some ⟨g,0,none⟩) x.hands.length p3) (.slice e x.deals.length p4)) 35):=by rw [← KE,fF,nK,Ow.out];rfl
      have k1:=av (World.ownsRow.kept x1 gr (.inr fun e9=>dh x1 nK (by decide) _ e9 rfl)) (lo':=lo) tO
      have k2:=av (World.ownsRow.kept x2 gr (.inr fun e9=>dh x2 nK (by decide) _ e9 rfl)) (lo':=lo) tO
      have k3:=World.ownsRow.kept x3 gr (.inr fun e9=>dh x3 nK (by decide) _ e9 rfl)
      have k4:=World.ownsRow.kept x4 gr (.inr fun e9=>dh x4 nK (by decide) _ e9 rfl)
      have QO:Below lo w we:=iE hBd gr tO (fun q hq=>by simp at hq;omega)
      have hse:=gr.size
      have Wh:=Lib.hid (show (iY de)=#[.int .i64 i,.int .i64 h0.code,.int .i64 h0.elem,.int .i64 h0.beg,.int .i64 (x.now+1),.int .i64 S.2.1.reply,.int .i64 S.2.1.out] by rw [hde.out,hh0.out];rfl)
      have RY:=(dB gr (bO Oo).2.2 (by simp;omega)).trans Oo
      have RZ:=(dB gr (bO Oq).2.2 (by simp;omega)).trans Oq
      have Ox:lo≤we.heap.size:=by omega
      obtain ⟨i6,Wi,Wj,Sa,Sb⟩:=info_parts xu
      clear KE gr Ot Ou Ov nK Oo Oq x1 x2 x3 x4 nJ jP gY dw IA IB o1 o2 o3 o4 BOX hgc hgf
      refine bI [[],[],[1],[1,2],[1,2,3],[],[],[6],[],[8],[],[10],[10,11],[10,11,12],[],[14],[],[16],[5,6,7,8,9,10,11,12,13,14,15,16,17],[5,6,7,8,9,10,11,12,13,14,15,16,17,18],[1,2,3,4,5,6,7,8,9,10,11,12,13,14,15,16,17,18,19],[0],[0,21],qC [16,17,18,19,20,21,22]] [67,68,69,70,71,72,73,74,75,76,77,78,79,80,81,82,83,84,85,86,87,88,89] (fun l s wx=>(Below lo w wx)∧(we.heap.size≤wx.heap.size)∧(hp wx B=some (.cells (gK xn (.slice xa S.1.cells.length xp) (.slice xb S.1.words.length xq) (.slice (some ⟨g,0,none⟩) x.hands.length p3) (cond (l 23) (s 1005) (.slice e x.deals.length p4))) 35))∧(hp wx gh=some (.cells (aa S.2.1) 49))∧(hp wx w.heap.size=some (.cells (aa h0) 49))∧(ag wx lo (.slice xa S.1.cells.length xp) S.1.cells)∧(ai wx lo (.slice xb S.1.words.length xq) S.1.words)∧(gG wx lo (.slice (some ⟨g,0,none⟩) x.hands.length p3) (x.hands.set i S.2.1))∧(l 20=false→jb wx lo (.slice e x.deals.length p4) x.deals)∧(l 0=true→s 67=.pointer (some ⟨B,0,none⟩))∧(l 1=true→s 68=.pointer (some ⟨B,0,none⟩))∧(l 2=true→s 69=.pointer (some ⟨B,0,none⟩))∧(l 3=true→s 70=.pointer (some ⟨B,7,none⟩))∧(l 4=true→s 71=.slice e x.deals.length p4)∧(l 5=true→s 72=.int .i64 i)∧(l 6=true→s 73=.pointer (some ⟨w.heap.size,1,none⟩))∧(l 7=true→s 74=.agg #[.int .i64 h0.code,.int .i64 h0.elem])∧(l 8=true→s 75=.pointer (some ⟨w.heap.size,11,none⟩))∧(l 9=true→s 76=.int .i64 h0.beg)∧(l 10=true→s 77=.pointer (some ⟨B,0,none⟩))∧(l 11=true→s 78=.pointer (some ⟨B,0,none⟩))∧(l 12=true→s 79=.pointer (some ⟨B,8,none⟩))∧(l 13=true→s 80=.int .i64 (x.now+1))∧(l 14=true→s 81=.pointer (some ⟨gh,12,none⟩))∧(l 15=true→s 82=.int .i64 S.2.1.reply)∧(l 16=true→s 83=.pointer (some ⟨gh,13,none⟩))∧(l 17=true→s 84=.int .i64 S.2.1.out)∧(l 18=true→s 85=.agg #[.int .i64 i,.int .i64 h0.code,.int .i64 h0.elem,.int .i64 h0.beg,.int .i64 (x.now+1),.int .i64 S.2.1.reply,.int .i64 S.2.1.out])∧(l 19=true→l 20=false→∃ k,s 86=.slice (some ⟨k,0,none⟩) 1 1∧hp wx k=some (.cells #[.int .i64 i,.int .i64 h0.code,.int .i64 h0.elem,.int .i64 h0.beg,.int .i64 (x.now+1),.int .i64 S.2.1.reply,.int .i64 S.2.1.out] 44))∧(l 20=true→s 87=s 1005∧jb wx lo (s 1005) (x.deals ++ [de]))∧(l 21=true→s 88=.pointer (some ⟨B,0,none⟩))∧(l 22=true→s 89=.pointer (some ⟨B,7,none⟩))) (by kernel_rfl) (by kernel_rfl) (by kernel_rfl) (fun s=>by (simp only [fill,fC,List.setIfInBounds_toArray,List.set_cons_zero,List.set_cons_succ];rfl)) (fun s=>⟨QO.drew,Nat.le_refl _,Ni,RY,RZ,k1.drew,k2.drew,k3.drew,fun _=>k4.drew,nB,nB,nB,nB,nB,nB,nB,nB,nB,nB,nB,nB,nB,nB,nB,nB,nB,nB,nB,nB,nB,nB,nB⟩) ?_ ?_
      refine ⟨?_,?_,?_,?_,?_,?_,?_,?_,?_,?_,?_,?_,?_,?_,?_,?_,?_,?_,?_,?_,?_,?_,?_,?_,trivial⟩;iterate 24 (intro l s wx hl hd hn hf K hK;rotate_left)
      ·intro l s wf hall hf
       have Wl:=hf.1
       have Nj:=hf.2.2.1
       have m1:=(jC hf).2.1
       have m2:=(jC hf).2.2.1
       have m3:=(jC hf).2.2.2.1
       have m4:=(((jC (jD (jE hf))).2.1 (hall 20 rfl))).2
       rw [hall 23 rfl] at Nj
       dsimp only [cond] at Nj
       clear hf hall
       go_wp2
       go_ret
       rw [Ow.out] at Nj
       exact ⟨⟨rfl,nI.of (x:={ jl x i S.2.1 with now:=x.now+1,ch:=S.1,deals:=x.deals ++ [de] }) Nj ⟨m1,m2,m3,m4⟩ hlB⟩,Wl⟩
      ·go_simp
       refine hK.out (upd s 67 (.pointer (some ⟨B,0,none⟩))) _ _ (by simp [ae] <;> rfl) (kD (kA (kX (fun _=>rfl) id)) hf.out)
      ·go_simp
       refine hK.out (upd s 68 (.pointer (some ⟨B,0,none⟩))) _ _ (by simp [ae] <;> rfl) (kD (kB (kX (fun _=>rfl) id)) hf.out)
      ·have e1:=((jD hf.out).2.2.1 (hd 1 rfl))
       go_simp
       refine hK.out (upd s 69 (.pointer (some ⟨B,0,none⟩))) _ _ (by simp [ae,e1] <;> rfl) (kD (kB (kA (kX (fun _=>rfl) id))) hf.out)
      ·have e2:=((jD hf.out).2.2.2.1 (hd 2 rfl))
       go_simp
       refine hK.out (upd s 70 (.pointer (some ⟨B,7,none⟩))) _ _ (by simp [ae,e2] <;> rfl) (kD (kC (kX (fun _=>rfl) id)) hf.out)
      ·have e3:=((jC (jD hf.out)).1 (hd 3 rfl))
       have zz:=hf.out.2.2.1
       rw [show l 23=false from hn 23 rfl] at zz
       have q:wx.cell? ⟨B,7,none⟩=some (.slice e x.deals.length p4):=(bO zz).1 7
       go_simp
       refine hK.out (upd s 71 (.slice e x.deals.length p4)) _ _ (by simp [ae,e3] <;> rfl) (kD (kC (kA (kX (fun _=>rfl) id))) hf.out)
      ·go_simp
       refine hK.out (upd s 72 (.int .i64 i)) _ _ (by simp [ae] <;> rfl) (kD (kC (kB (kX (fun _=>rfl) id))) hf.out)
      ·go_simp
       refine hK.out (upd s 73 (.pointer (some ⟨w.heap.size,1,none⟩))) _ _ (by simp [ae] <;> rfl) (kD (kC (kB (kA (kX (fun _=>rfl) id)))) hf.out)
      ·have e6:=((jC (jD hf.out)).2.2.2.1 (hd 6 rfl))
       have q1:wx.cell? ⟨w.heap.size,1,none⟩=some (.int .i64 h0.code):=(bO hf.out.2.2.2.2.1).1 1
       have q2:wx.cell? ⟨w.heap.size,2,none⟩=some (.int .i64 h0.elem):=(bO hf.out.2.2.2.2.1).1 2
       go_simp
       refine hK.out (upd s 74 (.agg #[.int .i64 h0.code,.int .i64 h0.elem])) _ _ (by simp [ae,e6] <;> rfl) (kE (kX (fun _=>rfl) id) hf.out)
      ·go_simp
       refine hK.out (upd s 75 (.pointer (some ⟨w.heap.size,11,none⟩))) _ _ (by simp [ae] <;> rfl) (kE (kA (kX (fun _=>rfl) id)) hf.out)
      ·have e8:=((jE hf.out).2.1 (hd 8 rfl))
       have q1:wx.cell? ⟨w.heap.size,11,none⟩=some (.int .i64 h0.beg):=(bO hf.out.2.2.2.2.1).1 11
       go_simp
       refine hK.out (upd s 76 (.int .i64 h0.beg)) _ _ (by simp [ae,e8] <;> rfl) (kE (kB (kX (fun _=>rfl) id)) hf.out)
      ·go_simp
       refine hK.out (upd s 77 (.pointer (some ⟨B,0,none⟩))) _ _ (by simp [ae] <;> rfl) (kE (kB (kA (kX (fun _=>rfl) id))) hf.out)
      ·have e10:=((jE hf.out).2.2.2.1 (hd 10 rfl))
       go_simp
       refine hK.out (upd s 78 (.pointer (some ⟨B,0,none⟩))) _ _ (by simp [ae,e10] <;> rfl) (kE (kC (kX (fun _=>rfl) id)) hf.out)
      ·have e11:=((jC (jE hf.out)).1 (hd 11 rfl))
       go_simp
       refine hK.out (upd s 79 (.pointer (some ⟨B,8,none⟩))) _ _ (by simp [ae,e11] <;> rfl) (kE (kC (kA (kX (fun _=>rfl) id))) hf.out)
      ·have e12:=((jC (jE hf.out)).2.1 (hd 12 rfl))
       have q1:wx.cell? ⟨B,8,none⟩=some (.int .i64 (x.now+1)):=by rw [← KF];exact (bO hf.out.2.2.1).1 8
       clear KF
       go_simp
       refine hK.out (upd s 80 (.int .i64 (x.now+1))) _ _ (by simp [ae,e12] <;> rfl) (kE (kC (kB (kX (fun _=>rfl) id))) hf.out)
      ·go_simp
       refine hK.out (upd s 81 (.pointer (some ⟨gh,12,none⟩))) _ _ (by simp [ae] <;> rfl) (kE (kC (kB (kA (kX (fun _=>rfl) id)))) hf.out)
      ·have e14:=((jC (jE hf.out)).2.2.2.1 (hd 14 rfl))
       have q1:wx.cell? ⟨gh,12,none⟩=some (.int .i64 S.2.1.reply):=(bO hf.out.2.2.2.1).1 12
       go_simp
       refine hK.out (upd s 82 (.int .i64 S.2.1.reply)) _ _ (by simp [ae,e14] <;> rfl) (kE (kD (kX (fun _=>rfl) id)) hf.out)
      ·go_simp
       refine hK.out (upd s 83 (.pointer (some ⟨gh,13,none⟩))) _ _ (by simp [ae] <;> rfl) (kE (kD (kA (kX (fun _=>rfl) id))) hf.out)
      ·have e16:=((jD (jE hf.out)).2.1 (hd 16 rfl))
       have q1:wx.cell? ⟨gh,13,none⟩=some (.int .i64 S.2.1.out):=(bO hf.out.2.2.2.1).1 13
       go_simp
       refine hK.out (upd s 84 (.int .i64 S.2.1.out)) _ _ (by simp [ae,e16] <;> rfl) (kE (kD (kB (kX (fun _=>rfl) id))) hf.out)
      ·have e5:=((jC (jD hf.out)).2.2.1 (hd 5 rfl))
       have e7:=((jE hf.out).1 (hd 7 rfl))
       have e9:=((jE hf.out).2.2.1 (hd 9 rfl))
       have e13:=((jC (jE hf.out)).2.2.1 (hd 13 rfl))
       have e15:=((jD (jE hf.out)).1 (hd 15 rfl))
       have e17:=((jD (jE hf.out)).2.2.1 (hd 17 rfl))
       go_simp
       refine hK.out (upd s 85 (.agg #[.int .i64 i,.int .i64 h0.code,.int .i64 h0.elem,.int .i64 h0.beg,.int .i64 (x.now+1),.int .i64 S.2.1.reply,.int .i64 S.2.1.out])) _ _ (by simp [ae,e5,e7,e9,e13,e15,e17] <;> rfl) (kE (kD (kB (kA (kX (fun _=>rfl) id)))) hf.out)
      ·have e18:=((jD (jE hf.out)).2.2.2.1 (hd 18 rfl))
       have wD:lo≤wx.heap.size:=Nat.le_trans Ox hf.out.2.1
       go_simp
       refine hK.out (upd s 86 (.slice (some ⟨wx.heap.size,0,none⟩) 1 1)) _ _ (by simp [ae,e18] <;> rfl) (kX ((hf.out.1).trans ((aQ wx _).mono wD)) (kX (Nat.le_trans hf.out.2.1 (Below.size (aQ wx _))) (kX (dS hf.out.2.2.1 (aQ wx _)) (kX (dS hf.out.2.2.2.1 (aQ wx _)) (kX (dS hf.out.2.2.2.2.1 (aQ wx _)) (kX (own_below (jC hf.out).2.1 (aQ wx _)) (kX (own_below (jC hf.out).2.2.1 (aQ wx _)) (kX (own_below (jC hf.out).2.2.2.1 (aQ wx _)) (kX (fun h9=>own_below ((jD hf.out).1 h9) (aQ wx _)) (kE (kB (kA (kX (fun _ _=>⟨_,rfl,heap_alloc_new _ _⟩) (kX (nU (hn 20 rfl)) id))))))))))))) hf.out)
      ·have e4:=((jC (jD hf.out)).2.1 (hd 4 rfl))
       have wD:lo≤wx.heap.size:=Nat.le_trans Ox hf.out.2.1
       have NL:jb wx lo (s 71) x.deals:=by rw [e4];exact (jD hf.out).1 hl
       obtain ⟨kb,ek,zk⟩:=((jC (jD (jE hf.out))).1 (hd 19 rfl)) hl
       refine oK rfl _ _ 33 rfl lo 44 i6 _ 7 56 Tryz.underlying33 Wi Wj Sa Sb rfl (by decide) (s 71) x.deals.length (jV x.deals) rfl NL (some ⟨kb,0,none⟩) 1 1 #[.int .i64 i,.int .i64 h0.code,.int .i64 h0.elem,.int .i64 h0.beg,.int .i64 (x.now+1),.int .i64 S.2.1.reply,.int .i64 S.2.1.out].toList ek (fun h=>nomatch h) rfl (K9 zk) (KA _ _ _ _ _ _ _) (by unfold maxLen;omega) tO wD ?_
       intro v' w' o' g'
       refine hK.out (upd (upd s 1005 (v')) 87 (v')) _ _ (by simp [ae,Act.put] <;> rfl) (kX (iE hf.out.1 g' wD (fun q hq=>(World.ownsRow.lt NL q hq).1)) (kX (Nat.le_trans hf.out.2.1 (World.grownBy.size g')) (kX (by (have zz:=hf.out.2.2.1);(rw [show l 23=false from hn 23 rfl] at zz);rw [show upd l 20 true 23=false from hn 23 rfl];exact (dB g' (bO zz).2.2 (fun e9=>dh NL zz (by decide) _ e9.symm rfl)).trans zz) (kX ((dB g' (bO hf.out.2.2.2.1).2.2 (fun e9=>dh NL hf.out.2.2.2.1 (by decide) _ e9.symm rfl)).trans hf.out.2.2.2.1) (kX ((dB g' (bO hf.out.2.2.2.2.1).2.2 (fun e9=>dh NL hf.out.2.2.2.2.1 (by decide) _ e9.symm rfl)).trans hf.out.2.2.2.2.1) (kX (World.ownsRow.kept (jC hf.out).2.1 g' (gU (jC hf.out).2.1 NL (by decide))) (kX (World.ownsRow.kept (jC hf.out).2.2.1 g' (gU (jC hf.out).2.2.1 NL (by decide))) (kX (World.ownsRow.kept (jC hf.out).2.2.2.1 g' (gU (jC hf.out).2.2.2.1 NL (by decide))) (kX (fun h9=>nU h9 (show upd l 20 true 20=true from rfl)) (kE (kB (kA (kX (fun _ h9=>nU h9 (show upd l 20 true 20=true from rfl)) (kX (fun _=>⟨rfl,by rw [← Wh.out] at o';exact jb.snoc o'⟩) id))))))))))))) hf.out)
      ·have e0:=((jD hf.out).2.1 (hd 0 rfl))
       go_simp
       refine hK.out (upd s 88 (.pointer (some ⟨B,0,none⟩))) _ _ (by simp [ae,e0] <;> rfl) (kE (kD (kC (kB (kX (fun _=>rfl) id)))) hf.out)
      ·have e21:=((jC (jD (jE hf.out))).2.2.1 (hd 21 rfl))
       go_simp
       refine hK.out (upd s 89 (.pointer (some ⟨B,7,none⟩))) _ _ (by simp [ae,e21] <;> rfl) (kE (kD (kC (kB (kA (fun _=>fun _=>rfl))))) hf.out)
      ·have e22:=((jC (jD (jE hf.out))).2.2.2 (hd 22 rfl))
       have e20:=((jC (jD (jE hf.out))).2.1 (hd 20 rfl)).1
       have wD:lo≤wx.heap.size:=Nat.le_trans Ox hf.out.2.1
       have OD:=(((jC (jD (jE hf.out))).2.1 (hd 20 rfl))).2
       have zu:=hf.out.2.2.1
       rw [hl] at zu
       dsimp only [cond] at zu
       obtain ⟨na,nc,en,_⟩:=OD.seg
       rw [List.length_append,List.length_singleton] at en
       rw [en] at e20
       have fB:=(bO zu).2.1
       have X4:=(bO zu).2.2
       have qB:wx.cell? ⟨B,7,none⟩=some (.slice e x.deals.length p4):=(bO zu).1 7
       have NM:wx.grownBy (wx.setCell ⟨B,7,none⟩ (.slice na (x.deals.length+1) nc)) (some B):=gS (gR B wx) (.inl rfl)
       have zn:hp (wx.setCell ⟨B,7,none⟩ (.slice na (x.deals.length+1) nc)) B=some (.cells (gK xn (.slice xa S.1.cells.length xp) (.slice xb S.1.words.length xq) (.slice (some ⟨g,0,none⟩) x.hands.length p3) (s 1005)) 35):=by rw [en,fF,zu];rfl
       go_simp
       refine hK.out (s) _ _ (by simp [ae,e22,e20] <;> rfl) (kX (iE hf.out.1 NM wD (fun q hq=>by simp at hq;omega)) (kX (Nat.le_trans hf.out.2.1 (World.grownBy.size NM)) (kX (zn) (kX ((dB NM (bO hf.out.2.2.2.1).2.2 (by simp;omega)).trans hf.out.2.2.2.1) (kX ((dB NM (bO hf.out.2.2.2.2.1).2.2 (by simp;omega)).trans hf.out.2.2.2.2.1) (kX (World.ownsRow.kept (jC hf.out).2.1 NM (.inr fun e9=>dh (jC hf.out).2.1 zu (by decide) _ e9 rfl)) (kX (World.ownsRow.kept (jC hf.out).2.2.1 NM (.inr fun e9=>dh (jC hf.out).2.2.1 zu (by decide) _ e9 rfl)) (kX (World.ownsRow.kept (jC hf.out).2.2.2.1 NM (.inr fun e9=>dh (jC hf.out).2.2.2.1 zu (by decide) _ e9 rfl)) (kX (fun h9=>nU h9 (hd 20 rfl)) (kE (kB (kA (kX (fun _ h9=>nU h9 (hd 20 rfl)) (kX (fun h9=>⟨((jC (jD (jE hf.out))).2.1 h9).1,World.ownsRow.kept ((jC (jD (jE hf.out))).2.1 h9).2 NM (.inr fun e9=>dh ((jC (jD (jE hf.out))).2.1 h9).2 zu (by decide) _ e9 rfl)⟩) id))))))))))))) hf.out)
      done)
   ·go_simp
    refine hK.out (upd s 48 (.pointer (some ⟨B,0,none⟩))) _ _ (by simp [ae] <;> rfl) (kD (kB (kX (fun _=>rfl) id)) hf.out)
   ·go_simp
    refine hK.out (upd s 49 (.pointer (some ⟨B,0,none⟩))) _ _ (by simp [ae] <;> rfl) (kD (kB (kA (kX (fun _=>rfl) id))) hf.out)
   ·have e1:=((jD hf.out).2.2.2.1 (hd 1 rfl))
    go_simp
    refine hK.out (upd s 50 (.pointer (some ⟨B,0,none⟩))) _ _ (by simp [ae,e1] <;> rfl) (kD (kC (kX (fun _=>rfl) id)) hf.out)
   ·have e2:=((jC (jD hf.out)).1 (hd 2 rfl))
    go_simp
    refine hK.out (upd s 51 (.pointer (some ⟨B,6,none⟩))) _ _ (by simp [ae,e2] <;> rfl) (kD (kC (kA (kX (fun _=>rfl) id))) hf.out)
   ·have e3:=((jC (jD hf.out)).2.1 (hd 3 rfl))
    have q:wx.cell? ⟨B,6,none⟩=some (.slice (some ⟨g,0,none⟩) x.hands.length p3):=(bO hf.out.2.2.1).1 6
    go_simp
    refine hK.out (upd s 52 (.slice (some ⟨g,0,none⟩) x.hands.length p3)) _ _ (by simp [ae,e3] <;> rfl) (kD (kC (kB (kX (fun _=>rfl) id))) hf.out)
   ·go_simp
    refine hK.out (upd s 53 (.int .i64 i)) _ _ (by simp [ae] <;> rfl) (kD (kC (kB (kA (kX (fun _=>rfl) id)))) hf.out)
   ·have q:=hf.out.2.2.2.1
    go_simp
    refine hK.out (upd s 54 (.agg (af S.1 (.slice xa S.1.cells.length xp) (.slice xb S.1.words.length xq)))) _ _ (by simp [ae] <;> rfl) (kE (kX (fun _=>rfl) id) hf.out)
   ·have q:=hf.out.2.2.2.2.1
    go_simp
    refine hK.out (upd s 55 (.agg (aa S.2.1))) _ _ (by simp [ae] <;> rfl) (kE (kA (kX (fun _=>rfl) id)) hf.out)
   ·have e0:=((jD hf.out).2.2.1 (hd 0 rfl))
    go_simp
    refine hK.out (upd s 56 (.pointer (some ⟨B,0,none⟩))) _ _ (by simp [ae,e0] <;> rfl) (kE (kB (kX (fun _=>rfl) id)) hf.out)
   ·have e8:=((jE hf.out).2.2.1 (hd 8 rfl))
    go_simp
    refine hK.out (upd s 57 (.pointer (some ⟨B,0,none⟩))) _ _ (by simp [ae,e8] <;> rfl) (kE (kB (kA (kX (fun _=>rfl) id))) hf.out)
   ·have e9:=((jE hf.out).2.2.2.1 (hd 9 rfl))
    have e6:=((jE hf.out).1 (hd 6 rfl))
    have zu:=hf.out.2.2.1
    rw [hl] at zu
    dsimp only [cond] at zu
    have hS:=MW zu S.1 xa xb S.1.cells.length xp S.1.words.length xq
    have wD:lo≤wx.heap.size:=Nat.le_trans PR hf.out.2.1
    go_simp
    refine hK.out (s) _ _ (by simp [ae,e9,e6] <;> rfl) (kX (iE hf.out.1 (nG wx B S.1 (.slice xa S.1.cells.length xp) (.slice xb S.1.words.length xq)) wD (fun k hk=>by simp at hk;omega)) (kX (Nat.le_trans hf.out.2.1 (World.grownBy.size (nG wx B S.1 (.slice xa S.1.cells.length xp) (.slice xb S.1.words.length xq)))) (kX (Oh zu S.1 _ _) (kX ((dB (nG wx B S.1 (.slice xa S.1.cells.length xp) (.slice xb S.1.words.length xq)) (bO hf.out.2.2.2.1).2.2 (by simp;omega)).trans hf.out.2.2.2.1) (kX ((dB (nG wx B S.1 (.slice xa S.1.cells.length xp) (.slice xb S.1.words.length xq)) (bO hf.out.2.2.2.2.1).2.2 (by simp;omega)).trans hf.out.2.2.2.2.1) (kX ((dB (nG wx B S.1 (.slice xa S.1.cells.length xp) (.slice xb S.1.words.length xq)) (bO (jC hf.out).2.1).2.2 (by simp;omega)).trans (jC hf.out).2.1) (kX (World.ownsRow.kept (jC hf.out).2.2.1 (nG wx B S.1 (.slice xa S.1.cells.length xp) (.slice xb S.1.words.length xq)) (.inr fun e9=>dh (jC hf.out).2.2.1 zu (by decide) _ e9 rfl)) (kX (World.ownsRow.kept (jC hf.out).2.2.2.1 (nG wx B S.1 (.slice xa S.1.cells.length xp) (.slice xb S.1.words.length xq)) (.inr fun e9=>dh (jC hf.out).2.2.2.1 zu (by decide) _ e9 rfl)) (kX (World.ownsRow.kept (jD hf.out).1 (nG wx B S.1 (.slice xa S.1.cells.length xp) (.slice xb S.1.words.length xq)) (.inr fun e9=>dh (jD hf.out).1 zu (by decide) _ e9 rfl)) (kX (World.ownsRow.kept (jD hf.out).2.1 (nG wx B S.1 (.slice xa S.1.cells.length xp) (.slice xb S.1.words.length xq)) (.inr fun e9=>dh (jD hf.out).2.1 zu (by decide) _ e9 rfl)) id))))))))) hf.out)
   ·have e4:=((jC (jD hf.out)).2.2.1 (hd 4 rfl))
    have e5:=((jC (jD hf.out)).2.2.2.1 (hd 5 rfl))
    go_simp
    refine hK.out (upd s 58 (.pointer (some ⟨g,i*14,none⟩))) _ _ (by simp [ae,e4,e5] <;> rfl) (kE (kC (fun _=>fun _=>rfl)) hf.out)
   ·have e11:=((jC (jE hf.out)) (hd 11 rfl))
    have e7:=((jE hf.out).2.1 (hd 7 rfl))
    have Oy:=(jD hf.out).1
    rw [hl] at Oy
    dsimp only [cond] at Oy
    have hS:=Oy.stAt hi S.2.1
    have wD:lo≤wx.heap.size:=Nat.le_trans PR hf.out.2.1
    go_simp
    refine hK.out (s) _ _ (by simp [ae,e11,e7] <;> rfl) (kX (iE hf.out.1 (gm wx g (i*14) S.2.1) wD (fun k hk=>by simp at hk;omega)) (kX (Nat.le_trans hf.out.2.1 (World.grownBy.size (gm wx g (i*14) S.2.1))) (kX ((dB (gm wx g (i*14) S.2.1) (bO hf.out.2.2.1).2.2 (by simp;omega)).trans hf.out.2.2.1) (kX ((dB (gm wx g (i*14) S.2.1) (bO hf.out.2.2.2.1).2.2 (by simp;omega)).trans hf.out.2.2.2.1) (kX ((dB (gm wx g (i*14) S.2.1) (bO hf.out.2.2.2.2.1).2.2 (by simp;omega)).trans hf.out.2.2.2.2.1) (kX ((dB (gm wx g (i*14) S.2.1) (bO (jC hf.out).2.1).2.2 (by simp;omega)).trans (jC hf.out).2.1) (kX (World.ownsRow.kept (jC hf.out).2.2.1 (gm wx g (i*14) S.2.1) (.inr (mU (gU (jC hf.out).2.2.1 Oy (by decide)) rfl))) (kX (World.ownsRow.kept (jC hf.out).2.2.2.1 (gm wx g (i*14) S.2.1) (.inr (mU (gU (jC hf.out).2.2.2.1 Oy (by decide)) rfl))) (kX (gG.set Oy hi S.2.1) (kX (World.ownsRow.kept (jD hf.out).2.1 (gm wx g (i*14) S.2.1) (.inr (mU (gU (jD hf.out).2.1 Oy (by decide)) rfl))) id))))))))) hf.out)
 ·go_simp
  refine hK.out (upd s 18 (.pointer (some ⟨B,0,none⟩))) _ _ (by simp [ae] <;> rfl) (kA (kX (fun _=>rfl) id) hf.out)
 ·have e0:=(hf.out.2.1 (hd 0 rfl))
  go_simp
  refine hK.out (upd s 19 (.pointer (some ⟨B,0,none⟩))) _ _ (by simp [ae,e0] <;> rfl) (kB (kX (fun _=>rfl) id) hf.out)
 ·have e1:=(hf.out.2.2.1 (hd 1 rfl))
  go_simp
  refine hK.out (upd s 20 (.pointer (some ⟨B,0,none⟩))) _ _ (by simp [ae,e1] <;> rfl) (kB (kA (kX (fun _=>rfl) id)) hf.out)
 ·have e2:=(hf.out.2.2.2.1 (hd 2 rfl))
  have hL:=sK (dS PQ hf.out.1)
  go_simp
  refine hK.out (upd s 21 (.agg (af x.ch (.slice a x.ch.cells.length p1) (.slice b x.ch.words.length p2)))) _ _ (by simp [ae,e2] <;> rfl) (kC (kX (fun _=>rfl) id) hf.out)
 ·have z:=dS dw hf.out.1
  go_simp
  refine hK.out (upd s 22 (.agg (aa h0))) _ _ (by simp [ae] <;> rfl) (kC (kA (kX (fun _=>rfl) id)) hf.out)
 ·have e3:=(hf.out.2.2.2.2.1 (hd 3 rfl))
  have e4:=((jC hf.out).2.1 (hd 4 rfl))
  go_simp
  go_at_call 105
  refine (HST.out _ ((own_below O1.out (bT ll hf.out.1))) ((own_below O2.out (bT ll hf.out.1)))).mono ?_
  rintro _ wy ⟨⟨y1,y2,rfl,X1,X2,_,_⟩,hE⟩
  refine hK.out (upd (upd (upd s 1003 (y1)) 1004 (y2)) 23 (.tuple #[.agg (af S.1 y1 y2),.agg (aa S.2.1),.bool S.2.2])) _ _ (by simp [ae,e3,e4] <;> rfl) (kX (bT hf.out.1 hE) (kC (kA (kX (fun _=>⟨rfl,av X1 (Below.size hf.out.1),av X2 (Below.size hf.out.1)⟩) (kX (nU (hn 6 rfl)) (kX (nU (hn 7 rfl)) (kX (nU (hn 8 rfl)) (kX (nU (hn 9 rfl)) (kX (fun h=>by (have ee:l 12=false:=hn 12 rfl);(have F:=(jD hf.out).2.2.2.1 h);rw [ee] at F;rw [show upd l 5 true 12=false from ee];exact F.below hE) (kX (fun h=>by (have ee:l 13=false:=hn 13 rfl);(have F:=(jC (jD hf.out)).1 h);rw [ee] at F;rw [show upd l 5 true 13=false from ee];exact F.below hE) (fun _=>nU (hn 14 rfl))))))))))) hf.out)
 ·have e5:=((jC hf.out).2.2.1 (hd 5 rfl)).1
  go_simp
  refine hK.out (upd s 17 (.tuple #[.agg (af S.1 (s 1003) (s 1004)),.agg (aa S.2.1),.bool S.2.2])) _ _ (by simp [ae,e5] <;> rfl) (kC (kB (kA (kX (fun _=>rfl) id))) hf.out)
 ·have e6:=((jC hf.out).2.2.2.1 (hd 6 rfl))
  go_simp
  refine hK.out (upd s 24 (.agg (af S.1 (s 1003) (s 1004)))) _ _ (by simp [ae,e6] <;> rfl) (kD (kX (fun _=>rfl) id) hf.out)
 ·have e6:=((jC hf.out).2.2.2.1 (hd 6 rfl))
  go_simp
  refine hK.out (upd s 25 (.agg (aa S.2.1))) _ _ (by simp [ae,e6] <;> rfl) (kD (kA (kX (fun _=>rfl) id)) hf.out)
 ·have e6:=((jC hf.out).2.2.2.1 (hd 6 rfl))
  go_simp
  refine hK.out (upd s 26 (.bool S.2.2)) _ _ (by simp [ae,e6] <;> rfl) (kD (kB (kX (fun _=>rfl) id)) hf.out)
 ·go_simp
  refine hK.out (upd s 6 (.pointer (some ⟨wx.heap.size,0,none⟩))) _ _ (by simp [ae] <;> rfl) (kX (bT hf.out.1 (aQ _ _)) (kC (kA (kX (fun h=>(let ⟨e,X1,X2⟩:=((jC hf.out).2.2.1 h);⟨e,own_below X1 (aQ _ _),own_below X2 (aQ _ _)⟩)) (kC (kX (fun _=>by rw [show upd l 10 true 12=false from hn 12 rfl];exact gy.new (Below.size hf.out.1)) (kX (fun h=>gy.below ((jC (jD hf.out)).1 h) (aQ _ _)) id)))))) hf.out)
 ·go_simp
  refine hK.out (upd s 7 (.pointer (some ⟨wx.heap.size,0,none⟩))) _ _ (by simp [ae] <;> rfl) (kX (bT hf.out.1 (aQ _ _)) (kC (kA (kX (fun h=>(let ⟨e,X1,X2⟩:=((jC hf.out).2.2.1 h);⟨e,own_below X1 (aQ _ _),own_below X2 (aQ _ _)⟩)) (kC (kX (fun h=>gy.below ((jD hf.out).2.2.2.1 h) (aQ _ _)) (kX (fun _=>by rw [show upd l 11 true 13=false from hn 13 rfl];exact gy.new (Below.size hf.out.1)) id)))))) hf.out)
 ·have e7:=((jD hf.out).1 (hd 7 rfl))
  have e5:=((jC hf.out).2.2.1 (hd 5 rfl))
  have X1:=e5.2.1
  have X2:=e5.2.2
  clear e5
  obtain ⟨bb,eb,hlo,zb⟩:=((jD hf.out).2.2.2.1 (hd 10 rfl))
  rw [hl] at zb
  dsimp only [cond] at zb
  obtain ⟨xa,xp,ea,_⟩:=X1.seg
  obtain ⟨xb,xq,mq,_⟩:=X2.seg
  rw [ea,mq] at e7
  have zn:hp (bY wx bb (af S.1 (.slice xa S.1.cells.length xp) (.slice xb S.1.words.length xq))) bb=some (.cells (af S.1 (s 1003) (s 1004)) 31):=by rw [ea,mq];exact fH zb
  go_simp
  refine hK.out (s) _ _ (by simp [ae,eb,e7,ea,mq] <;> rfl) (kX (Fb hf.out.1 hlo) (kC (kA (kX (fun h=>⟨((jC hf.out).2.2.1 h).1,cO ((jC hf.out).2.2.1 h).2.1 zb (by decide),cO ((jC hf.out).2.2.1 h).2.2 zb (by decide)⟩) (kC (kX (fun _=>⟨bb,eb,hlo,zn⟩) (kX (fun h=>gy.far ((jC (jD hf.out)).1 h) zb (by decide)) id)))))) hf.out)
 ·have e8:=((jD hf.out).2.1 (hd 8 rfl))
  have e5:=((jC hf.out).2.2.1 (hd 5 rfl))
  have X1:=e5.2.1
  have X2:=e5.2.2
  clear e5
  obtain ⟨bb,eb,hlo,zb⟩:=((jC (jD hf.out)).1 (hd 11 rfl))
  rw [hl] at zb
  dsimp only [cond] at zb
  have zn:hp (bY wx bb (aa S.2.1)) bb=some (.cells (aa S.2.1) 49):=by exact fH zb
  go_simp
  refine hK.out (s) _ _ (by simp [ae,eb,e8] <;> rfl) (kX (Fb hf.out.1 hlo) (kC (kA (kX (fun h=>⟨((jC hf.out).2.2.1 h).1,cO ((jC hf.out).2.2.1 h).2.1 zb (by decide),cO ((jC hf.out).2.2.1 h).2.2 zb (by decide)⟩) (kC (kX (fun h=>gy.far ((jD hf.out).2.2.2.1 h) zb (by decide)) (kX (fun _=>⟨bb,eb,hlo,zn⟩) id)))))) hf.out)
 ·have e9:=((jD hf.out).2.2.1 (hd 9 rfl))
  go_simp
  refine hK.out (upd s 8 (.bool S.2.2)) _ _ (by simp [ae,e9] <;> rfl) (kD (kC (kA (fun _=>fun _=>rfl))) hf.out)
end
section
open Go.RowKit
theorem iG.at {w W:World} {x:Wo} {a b d e:Option Addr} (h:iG w w.heap.size x a b d e) (hb:Below w.heap.size w W):iG W W.heap.size x a b d e:=⟨(h.1.below hb).more hb.size,(h.2.1.below hb).more hb.size,(h.2.2.1.below hb).more hb.size,(h.2.2.2.below hb).more hb.size⟩
attribute [local simp] aC
attribute [local go_sem ↓] aB aL aM fe au
attribute [local go_sem] eB
theorem KG (x:Wo) (who kk ee:Int) (a b d e:Option Addr) (p q r s:Nat) (w:World) (h:iG w w.heap.size x a b d e) (m:lJ x) (hk:bJ x=false) :
  Calls Tryz.prog 13 #[xc x a b d e p q r s,.int .i64 who,.agg #[.int .i64 kk,.int .i64 ee]] w fun r w'=>iM w w' Wo.zero (.int .i64 3) r:=by
 have HW:=Lib.hid h
 clear h
 go_enter Tryz.func13,Tryz.ntmps13
 go_wp2_with fail;refine ax w zB fun bb=>?_;refine (gq x a b d e p q r s _ (HW.out.at bb) m).mono ?_;rintro _ w1 ⟨rfl,ah⟩;obtain ⟨aW,ay,zz⟩:=Ct bb ah (b:=w.heap.size);(try simp at ay);(try simp [go_sem] at zz);replace bX:=Cs zz;clear zz ah bb
 rw [hk]
 go_wp2
 refine bodyPost_ret (v:=.tuple #[.agg #[.int .i64 0,.int .i64 0,.int .i64 0,.int .i64 0,.slice none 0 0,.slice none 0 0,.slice none 0 0,.slice none 0 0,.int .i64 0],.int .i64 3]) (by simp [results,Tryz.results13,go_sem, *]) rfl ⟨⟨_,_,_,_,rfl,mK _ _⟩,by exact zB⟩
theorem KH (x:Wo) (who kk ee:Int) (a b d e:Option Addr) (p q r s:Nat) (w:World) (h:iG w w.heap.size x a b d e) (m:lJ x) (hk:bJ x=true) (ht:kG x.hands.length who=false) :
  Calls Tryz.prog 13 #[xc x a b d e p q r s,.int .i64 who,.agg #[.int .i64 kk,.int .i64 ee]] w fun r w'=>iM w w' Wo.zero (.int .i64 3) r:=by
 have HW:=Lib.hid h
 have M3:x.hands.length≤1099511627776:=by have:=m.2.2.1;omega
 clear h
 go_enter Tryz.func13,Tryz.ntmps13
 go_wp2_with fail;refine ax w zB fun bb=>?_;refine (gq x a b d e p q r s _ (HW.out.at bb) m).mono ?_;rintro _ w1 ⟨rfl,ah⟩;obtain ⟨aW,ay,zz⟩:=Ct bb ah (b:=w.heap.size);(try simp at ay);(try simp [go_sem] at zz);replace bX:=Cs zz;clear zz ah bb
 rw [hk]
 go_wp2_with fail
 refine (lH x.hands.length who w.heap.size d r _ (by simp [*]) M3).mono ?_
 rintro _ _ ⟨rfl,rfl⟩
 rw [ht]
 go_wp2
 refine bodyPost_ret (v:=.tuple #[.agg #[.int .i64 0,.int .i64 0,.int .i64 0,.int .i64 0,.slice none 0 0,.slice none 0 0,.slice none 0 0,.slice none 0 0,.int .i64 0],.int .i64 3]) (by simp [results,Tryz.results13,go_sem, *]) rfl ⟨⟨_,_,_,_,rfl,mK _ _⟩,by exact zB⟩
attribute [local go_sem] jM qK mR
theorem KI (x:Wo) (i:Nat) (kk ee:Int) (a b d e:Option Addr) (p q r s:Nat) (w:World) (h:iG w w.heap.size x a b d e) (z:kT x a b d e p q r s) (m:lJ x) (hk:bJ x=true) (hi:i<x.hands.length) :
  Calls Tryz.prog 13 #[xc x a b d e p q r s,.int .i64 i,.agg #[.int .i64 kk,.int .i64 ee]] w fun r w'=>iM w w' (asked x i kk ee).1 (.int .i64 (asked x i kk ee).2) r:=by
 have HW:=Lib.hid h
 have HZ:=Lib.hid z
 have M3:x.hands.length≤1099511627776:=by have:=m.2.2.1;omega
 obtain ⟨b3,o3,rfl,hb3,hc3⟩:∃ b o,d=some ⟨b,o,none⟩∧b<w.heap.size∧Hid (∀ i j,i<x.hands.length→j<14→w.cell? ⟨b,o+i*14+j,none⟩=some (fI x.hands i j)):=by
  rcases h.2.2.1 with h0|h0
  ·omega
  ·exact h0
 clear h z
 have ht:kG x.hands.length i=true:=by simp [kG,dm];omega
 have HA:=Lib.hid (show asked x i kk ee=(if (called (dH x i) kk ee).2 != 0 then (x,(called (dH x i) kk ee).2) else if x.now == 20000 then (x,1) else ({ jl x i { (called (dH x i) kk ee).1 with beg:=x.now+1 } with now:=x.now+1 },0)) by simp [asked,hk,qZ,ht])
 obtain ⟨Y,hY⟩:∃ Y,Y=asked x i kk ee:=⟨_,rfl⟩
 rw [← hY] at HA ⊢
 clear hY
 have Oz:∀ W:World,hp W b3=hp w b3→(nP (.pointer (some ⟨b3,o3+i*14,none⟩))).run Tryz.prog W=.ok (.agg (aa (dH x i))) W:=fun W e=>nu _ fun j hj=>by rw [show (aa (dH x i)).getD j (.int .i64 0)=fI x.hands i j by simp [fI,dH],← hc3.out i j hi hj];exact World.cell?_of_block e
 obtain ⟨h0,hh0⟩:∃ h0,h0=dH x i:=⟨_,rfl⟩
 rw [← hh0] at Oz HA
 have Ld:=Oz
 clear Oz hc3 hh0
 obtain ⟨H1,cc,hcl⟩:∃ H1 cc,called h0 kk ee=(H1,cc):=⟨_,_,rfl⟩
 rw [hcl] at HA
 have Wm:=Lib.hid hcl
 clear hcl
 have hi0:(0:Int)≤(i:Int):=by omega
 have hi1:(i:Int)<(x.hands.length:Int):=by omega
 have Wn:=xL hk
 go_enter Tryz.func13,Tryz.ntmps13
 go_wp2_with fail;refine ax w zB fun bb=>?_;refine (gq x a b _ e p q r s _ (HW.out.at bb) m).mono ?_;rintro _ w1 ⟨rfl,ah⟩;have aW:Below w.heap.size w w1:=bT bb ah;have ay:=ah.size;(try simp at ay);have zz:=And.intro (hQ ah (b:=w.heap.size+1+1)) <| And.intro (hQ ah (b:=w.heap.size+1)) <| hQ ah (b:=w.heap.size);(try simp [go_sem] at zz);(try clear aH cB cK bq);(try clear bz di dz bZ);(try clear dw dV eD dJ);obtain ⟨aH,bz,dw⟩:=zz;obtain ⟨cB,cK,bq⟩:=bO aH;obtain ⟨di,dz,bZ⟩:=bO bz;obtain ⟨dV,eD,dJ⟩:=bO dw;clear ah bb
 rw [hk]
 go_wp2_with fail
 refine (lH x.hands.length i w.heap.size (some ⟨b3,o3,none⟩) r _ (by simp [*]) M3).mono ?_
 rintro _ _ ⟨rfl,rfl⟩
 rw [ht]
 go_wp2_with fail;refine ax w zB fun bb=>?_;refine (xz x a b _ e p q r s _ (HW.out.at bb) HZ.out m).mono ?_;rintro _ w3 ⟨⟨B,v1,v2,v3,v4,rfl,Nk,nJ,o1,o2,Nl,o4⟩,aO⟩;have ig:Below w.heap.size w w3:=bT bb aO;have df:=aO.size;(try simp at df);have zz:=And.intro (hQ aO (b:=w.heap.size+1+1)) <| And.intro (hQ aO (b:=w.heap.size+1)) <| hQ aO (b:=w.heap.size);(first|simp [go_sem,aH,bz,dw,dJ,bZ,bq] at zz|simp [go_sem] at zz|skip);(try clear aH cB cK bq);(try clear bz di dz bZ);(try clear dw dV eD dJ);obtain ⟨aH,bz,dw⟩:=zz;obtain ⟨cB,cK,bq⟩:=bO aH;obtain ⟨di,dz,bZ⟩:=bO bz;obtain ⟨dV,eD,dJ⟩:=bO dw;clear aO bb
 obtain ⟨va,vc,rfl,_⟩:=ag.seg o1
 obtain ⟨vb,vd,rfl,_⟩:=ai.seg o2
 obtain ⟨g,vg,rfl,RQ,lg,hgc,hgf⟩:=gG.open1 Nl hi
 obtain ⟨vh,vi,rfl,_⟩:=jb.seg o4
 have Sc:B<w3.heap.size:=(bO nJ).2.2
 have hgB:g≠B:=dh Nl nJ (by decide) g rfl
 go_wp2_with fail
 refine bI [[],[0],[],[0,1,2],[0,1,2,3],[],[0,1,2,3,4,5],[0,1,2,3,4,5,6],qB [],qB [],[],qB [8,10],qB [9]] [23,24,25,26,27,28,29,22,30,31,9,10] (fun l s wx=>(Below w3.heap.size w3 wx)∧(l 0=true→s 23=.pointer (some ⟨w.heap.size,6,none⟩))∧(l 1=true→s 24=.slice (some ⟨b3,o3,none⟩) x.hands.length r)∧(l 2=true→s 25=.int .i64 i)∧(l 3=true→s 26=.pointer (some ⟨b3,o3+i*14,none⟩))∧(l 4=true→s 27=.agg (aa h0))∧(l 5=true→s 28=.agg #[.int .i64 kk,.int .i64 ee])∧(l 6=true→s 29=.tuple #[.agg (aa H1),.int .i64 cc])∧(l 7=true→s 22=.tuple #[.agg (aa H1),.int .i64 cc])∧(l 8=true→s 30=.agg (aa H1))∧(l 9=true→s 31=.int .i64 cc)∧(l 10=true→gy wx (s 9) w3.heap.size (cond (l 11) (aa H1) (aa Ha.zero)) 49)∧(l 12=true→s 10=.int .i64 cc)) (by kernel_rfl) (by kernel_rfl) (by kernel_rfl) (fun s=>by (simp only [fill,fC,List.setIfInBounds_toArray,List.set_cons_zero,List.set_cons_succ];rfl)) (fun s=>⟨(Below.refl _ _).drew,nB,nB,nB,nB,nB,nB,nB,nB,nB,nB,nB,nB⟩) ?_ ?_
 refine ⟨?_,?_,?_,?_,?_,?_,?_,?_,?_,?_,?_,?_,?_,trivial⟩;iterate 13 (intro l s wx hl hd hn hf K hK;rotate_left)
 ·intro l s w8 hall hf
  have FM:=hf.1
  obtain ⟨gh,ea,hgh,gY⟩:=((jD hf).2.2.2.1 (hall 10 rfl))
  have ec:=((jC (jD hf)) (hall 12 rfl))
  rw [hall 11 rfl] at gY
  dsimp only [cond] at gY
  simp only [ea,ec]
  clear ea ec hf hall
  have QN:Below w.heap.size w w8:=bT ig FM
  replace aH:=dS aH FM
  replace nJ:=dS nJ FM
  replace o1:=own_below o1 FM
  replace o2:=own_below o2 FM
  replace Nl:=own_below Nl FM
  replace o4:=own_below o4 FM
  have Sd:hp w8 g=hp w3 g:=FM.block g lg
  have We:=FM.size
  have lB3:B<w3.heap.size:=by have:=(bO nJ).2.2;exact Sc
  replace dw:=dS dw FM
  clear dV di cB eD dz cK dJ bz Ld
  obtain ⟨dV,eD,dJ⟩:=bO dw
  obtain ⟨BU,Ig,KD⟩:=bO nJ
  obtain ⟨qg,qG,nS⟩:=bO gY
  obtain ⟨cB,cK,O0⟩:=bO aH
  simp only [gK] at BU
  have n1:B≠w.heap.size+1+1:=by omega
  have n2:w.heap.size+1+1≠B:=by omega
  have n3:gh≠w.heap.size+1+1:=by omega
  have n4:w.heap.size+1+1≠gh:=by omega
  have n5:gh≠B:=by omega
  have n6:B≠gh:=by omega
  have l1:w.heap.size≤B:=by omega
  by_cases hc:cc=0
  ·subst hc
   by_cases hn:x.now=20000
   ·obtain rfl:Y=(x,1):=by rw [HA.out];simp [hn]
    have hnb:(x.now == 20000)=true:=by simp [hn]
    clear HA hn
    go_wp2
    refine bodyPost_ret (v:=.tuple #[.agg #[.int .i64 x.ch.cap,.int .i64 x.ch.sent,.int .i64 x.ch.got,.int .i64 x.ch.fin,.slice va x.ch.cells.length vc,.slice vb x.ch.words.length vd,.slice (some ⟨g,0,none⟩) x.hands.length vg,.slice vh x.deals.length vi,.int .i64 x.now],.int .i64 1]) (by simp [results,Tryz.results13,go_sem, *]) rfl ⟨⟨_,_,_,_,rfl,av (lo:=w1.heap.size) (zW o1 aH) tO,av (lo:=w1.heap.size) (zW o2 aH) tO,av (lo:=w1.heap.size) (zW Nl aH) tO,av (lo:=w1.heap.size) (zW o4 aH) tO⟩,by exact zB⟩
   ·obtain ⟨y,hy⟩:∃ y,Hid (y=({ H1 with beg:=x.now+1 }:Ha)):=⟨_,rfl⟩
    obtain rfl:Y=({ jl x i y with now:=x.now+1 },0):=by rw [HA.out,hy.out];simp [hn]
    have hnb:(x.now == 20000)=false:=by simp [hn]
    clear HA
    have PS:=fun j hj=>(World.cell?_of_block (a:=⟨g,i*14+j,none⟩) Sd).trans (hgc j hj)
    have PT:=fun o=>(World.frozen?_of_block (a:=⟨g,o,none⟩) Sd).trans (hgf o)
    go_wp2_with fail
    have TI:B<gh:=by omega
    have X5:g<gh:=by omega
    have Wp:w.heap.size+1+1<B:=by omega
    have Wq:w.heap.size+1+1<gh:=by omega
    generalize hwc:World.setCell _ _ _=wc
    have Sg:hp wc g=hp w8 g:=by rw [← hwc];exact (Below.heap_setCell _ _ _ _ (by (try dsimp only) <;> omega)).trans (Below.heap_setCell _ _ _ _ (by (try dsimp only) <;> omega))
    have QP:hp wc B=some (.cells #[.int .i64 x.ch.cap,.int .i64 x.ch.sent,.int .i64 x.ch.got,.int .i64 x.ch.fin,.slice va x.ch.cells.length vc,.slice vb x.ch.words.length vd,.slice (some ⟨g,0,none⟩) x.hands.length vg,.slice vh x.deals.length vi,.int .i64 (x.now+1)] 35):=by rw [← hwc];simp [go_sem,nJ,TI,gK]
    have PU:hp wc gh=some (.cells (aa y) 49):=by rw [← hwc,hy.out];simp [go_sem,gY,TI]
    have KJ:hp wc (w.heap.size+1+1)=some (.cells #[.int .i64 0,.int .i64 0,.int .i64 0,.int .i64 0,.slice none 0 0,.slice none 0 0,.slice none 0 0,.slice none 0 0,.int .i64 0] 35):=by rw [← hwc];simp [go_sem,aH,Wp,Wq]
    have Ws:Below w.heap.size w wc:=by rw [← hwc];exact zB
    have hsc:wc.heap.size=w8.heap.size:=by rw [← hwc];simp
    have q1:wc.ownsRow w1.heap.size 93 3 (.slice va x.ch.cells.length vc) x.ch.cells.length (iJ x.ch.cells):=by rw [← hwc];exact aS (aS o1 (fun e9=>dh o1 nJ (by decide) _ e9 rfl) _) (fun e9=>dh o1 gY (by decide) _ e9 rfl) _
    have q2:wc.ownsRow w1.heap.size 2 1 (.slice vb x.ch.words.length vd) x.ch.words.length (ints x.ch.words):=by rw [← hwc];exact aS (aS o2 (fun e9=>dh o2 nJ (by decide) _ e9 rfl) _) (fun e9=>dh o2 gY (by decide) _ e9 rfl) _
    have q3:wc.ownsRow w1.heap.size 49 14 (.slice (some ⟨g,0,none⟩) x.hands.length vg) x.hands.length (jU x.hands):=by rw [← hwc];exact aS (aS Nl (fun e9=>dh Nl nJ (by decide) _ e9 rfl) _) (fun e9=>by simp [Value.ownBlock] at e9;omega) _
    have q4:wc.ownsRow w1.heap.size 44 7 (.slice vh x.deals.length vi) x.deals.length (jV x.deals):=by rw [← hwc];exact aS (aS o4 (fun e9=>dh o4 nJ (by decide) _ e9 rfl) _) (fun e9=>dh o4 gY (by decide) _ e9 rfl) _
    clear hwc o1 o2 Nl o4 nJ gY aH dw BU qg cB dV Ig qG cK eD dJ O0 KD nS
    have hSt:∀ (W:World) (y:Ha),hp W g=hp wc g→(tQ (.pointer (some ⟨g,i*14,none⟩)) (.agg (aa y))).run Tryz.prog W=.ok () (iI W g (i*14) y):=fun W y e=>Fv y (fun j hj=>⟨_,(World.cell?_of_block (show W.heap[g]?=w8.heap[g]? from e.trans Sg)).trans (PS j hj)⟩) (fun j=>(World.frozen?_of_block (show W.heap[g]?=w8.heap[g]? from e.trans Sg)).trans (PT j))
    have Wu:g<wc.heap.size:=by omega
    have nJ:=QP
    have gY:=PU
    have e1:=mU (g:=g) (gU q1 q3 (by decide)) rfl
    have e2:=mU (g:=g) (gU q2 q3 (by decide)) rfl
    have e4:=mU (g:=g) (gU q4 q3 (by decide)) rfl
    clear PU PS PT Sd Sg hgc hgf
    refine bI [[],[0],[0,1],[0,1,2],[],[],[0,1,2,3,4],[0,1,2,3,4,5,6]] [57,58,59,60,61,62,63] (fun l s wx=>(l 7=false→Below wc.heap.size wc wx)∧(l 0=true→s 57=.pointer (some ⟨B,0,none⟩))∧(l 1=true→s 58=.pointer (some ⟨B,0,none⟩))∧(l 2=true→s 59=.pointer (some ⟨B,6,none⟩))∧(l 3=true→s 60=.slice (some ⟨g,0,none⟩) x.hands.length vg)∧(l 4=true→s 61=.int .i64 i)∧(l 5=true→s 62=.agg (aa y))∧(l 6=true→s 63=.pointer (some ⟨g,i*14,none⟩))∧(l 7=true→∃ W,Below wc.heap.size wc W∧wx=iI W g (i*14) y)) (by kernel_rfl) (by kernel_rfl) (by kernel_rfl) (fun s=>by (simp only [fill,fC,List.setIfInBounds_toArray,List.set_cons_zero,List.set_cons_succ];rfl)) (fun s=>⟨fun _=>(Below.refl _ _).drew,nB,nB,nB,nB,nB,nB,nB,nB⟩) ?_ ?_
    refine ⟨?_,?_,?_,?_,?_,?_,?_,?_,trivial⟩;iterate 8 (intro l s wx hl hd hn hf K hK;rotate_left)
    ·intro l s w9 hall hf
     obtain ⟨wd,hbd,rfl⟩:=(jD hf) (hall 7 rfl)
     clear hf hall
     have hsd:=hbd.size
     generalize KE:iI wd g (i*14) y=we
     have gr:=gm wd g (i*14) y
     rw [KE] at gr
     have Wv:=(dB gr (bO (dS QP hbd)).2.2 (by simp;omega)).trans (dS QP hbd)
     have PV:=(dB gr (bO (dS KJ hbd)).2.2 (by simp;omega)).trans (dS KJ hbd)
     have r1:=World.ownsRow.kept (own_below q1 hbd) gr (.inr e1)
     have r2:=World.ownsRow.kept (own_below q2 hbd) gr (.inr e2)
     have r4:=World.ownsRow.kept (own_below q4 hbd) gr (.inr e4)
     have r3:=gG.set (own_below q3 hbd) hi y
     rw [KE] at r3
     have QO:Below w.heap.size w we:=iE (bT Ws hbd) gr tO (fun k hk=>by simp at hk;omega)
     obtain ⟨BU,Ig,KD⟩:=bO Wv
     obtain ⟨dV,eD,dJ⟩:=bO PV
     clear KE gr hSt q1 q2 q3 q4 nJ gY QP KJ hbd
     go_wp2
     refine bodyPost_ret (v:=.tuple #[.agg #[.int .i64 x.ch.cap,.int .i64 x.ch.sent,.int .i64 x.ch.got,.int .i64 x.ch.fin,.slice va x.ch.cells.length vc,.slice vb x.ch.words.length vd,.slice (some ⟨g,0,none⟩) x.hands.length vg,.slice vh x.deals.length vi,.int .i64 (x.now+1)],.int .i64 0]) (by simp [results,Tryz.results13,go_sem, *]) rfl ⟨⟨_,_,_,_,rfl,av (lo:=w1.heap.size) (by (show ag _ _ _ x.ch.cells);(repeat (first|with_reducible exact r1|((with_reducible refine aS ?_ ?_ _);rotate_left;(focus exact fun e9=>dh r1 PV (by decide) _ e9 rfl))))) tO,av (lo:=w1.heap.size) (by (show ai _ _ _ x.ch.words);(repeat (first|with_reducible exact r2|((with_reducible refine aS ?_ ?_ _);rotate_left;(focus exact fun e9=>dh r2 PV (by decide) _ e9 rfl))))) tO,av (lo:=w1.heap.size) (by (show gG _ _ _ (x.hands.set i y));(repeat (first|with_reducible exact r3|((with_reducible refine aS ?_ ?_ _);rotate_left;(focus exact fun e9=>dh r3 PV (by decide) _ e9 rfl))))) tO,av (lo:=w1.heap.size) (by (show jb _ _ _ x.deals);(repeat (first|with_reducible exact r4|((with_reducible refine aS ?_ ?_ _);rotate_left;(focus exact fun e9=>dh r4 PV (by decide) _ e9 rfl))))) tO⟩,by exact zB⟩
    ·go_simp
     refine hK.out (upd s 57 (.pointer (some ⟨B,0,none⟩))) _ _ (by simp [ae] <;> rfl) (kA (kX (fun _=>rfl) id) hf.out)
    ·have e0:=(hf.out.2.1 (hd 0 rfl))
     go_simp
     refine hK.out (upd s 58 (.pointer (some ⟨B,0,none⟩))) _ _ (by simp [ae,e0] <;> rfl) (kB (kX (fun _=>rfl) id) hf.out)
    ·have e1:=(hf.out.2.2.1 (hd 1 rfl))
     go_simp
     refine hK.out (upd s 59 (.pointer (some ⟨B,6,none⟩))) _ _ (by simp [ae,e1] <;> rfl) (kB (kA (kX (fun _=>rfl) id)) hf.out)
    ·have e2:=(hf.out.2.2.2.1 (hd 2 rfl))
     have z:=(bO (dS nJ (hf.out.1 (hn 7 rfl)))).1 6
     go_simp
     refine hK.out (upd s 60 (.slice (some ⟨g,0,none⟩) x.hands.length vg)) _ _ (by simp [ae,e2] <;> rfl) (kC (kX (fun _=>rfl) id) hf.out)
    ·go_simp
     refine hK.out (upd s 61 (.int .i64 i)) _ _ (by simp [ae] <;> rfl) (kC (kA (kX (fun _=>rfl) id)) hf.out)
    ·have z:=dS gY (hf.out.1 (hn 7 rfl))
     go_simp
     refine hK.out (upd s 62 (.agg (aa y))) _ _ (by simp [ae] <;> rfl) (kC (kB (kX (fun _=>rfl) id)) hf.out)
    ·have e3:=(hf.out.2.2.2.2.1 (hd 3 rfl))
     have e4:=((jC hf.out).2.1 (hd 4 rfl))
     go_simp
     refine hK.out (upd s 63 (.pointer (some ⟨g,i*14,none⟩))) _ _ (by simp [ae,e3,e4] <;> rfl) (kC (kB (kA (kX (fun _=>rfl) id))) hf.out)
    ·have e5:=((jC hf.out).2.2.1 (hd 5 rfl))
     have e6:=((jC hf.out).2.2.2.1 (hd 6 rfl))
     have hS:=hSt wx y ((hf.out.1 hl).block g Wu)
     go_simp
     refine hK.out (s) _ _ (by simp [ae,e5,e6] <;> rfl) (kX (fun h9=>nU h9 (show upd l 7 true 7=true from rfl)) (kC (kB (kA (fun _=>fun _=>⟨wx,hf.out.1 hl,rfl⟩)))) hf.out)
  ·obtain rfl:Y=(x,cc):=by rw [HA.out];simp [hc]
   have hcb:(cc == 0)=false:=by simp [hc]
   have Ww:(cc != 0)=true:=by simp [hc]
   clear HA
   go_wp2
   refine bodyPost_ret (v:=.tuple #[.agg #[.int .i64 x.ch.cap,.int .i64 x.ch.sent,.int .i64 x.ch.got,.int .i64 x.ch.fin,.slice va x.ch.cells.length vc,.slice vb x.ch.words.length vd,.slice (some ⟨g,0,none⟩) x.hands.length vg,.slice vh x.deals.length vi,.int .i64 x.now],.int .i64 cc]) (by simp [results,Tryz.results13,go_sem, *]) rfl ⟨⟨_,_,_,_,rfl,av (lo:=w1.heap.size) (zW o1 aH) tO,av (lo:=w1.heap.size) (zW o2 aH) tO,av (lo:=w1.heap.size) (zW Nl aH) tO,av (lo:=w1.heap.size) (zW o4 aH) tO⟩,by exact zB⟩
 ·go_simp
  refine hK.out (upd s 23 (.pointer (some ⟨w.heap.size,6,none⟩))) _ _ (by simp [ae] <;> rfl) (kA (kX (fun _=>rfl) id) hf.out)
 ·have e0:=(hf.out.2.1 (hd 0 rfl))
  have z6:=(bO (dS dw hf.out.1)).1 6
  go_simp
  refine hK.out (upd s 24 (.slice (some ⟨b3,o3,none⟩) x.hands.length r)) _ _ (by simp [ae,e0] <;> rfl) (kB (kX (fun _=>rfl) id) hf.out)
 ·go_simp
  refine hK.out (upd s 25 (.int .i64 i)) _ _ (by simp [ae] <;> rfl) (kB (kA (kX (fun _=>rfl) id)) hf.out)
 ·have e1:=(hf.out.2.2.1 (hd 1 rfl))
  have e2:=(hf.out.2.2.2.1 (hd 2 rfl))
  go_simp
  refine hK.out (upd s 26 (.pointer (some ⟨b3,o3+i*14,none⟩))) _ _ (by simp [ae,e1,e2] <;> rfl) (kC (kX (fun _=>rfl) id) hf.out)
 ·have e3:=(hf.out.2.2.2.2.1 (hd 3 rfl))
  have hL:=Ld wx ((bT ig hf.out.1).block b3 hb3)
  go_simp
  refine hK.out (upd s 27 (.agg (aa h0))) _ _ (by simp [ae,e3] <;> rfl) (kC (kA (kX (fun _=>rfl) id)) hf.out)
 ·have z0:=(bO (dS bz hf.out.1)).1 0
  have z1:=(bO (dS bz hf.out.1)).1 1
  go_simp
  refine hK.out (upd s 28 (.agg #[.int .i64 kk,.int .i64 ee])) _ _ (by simp [ae] <;> rfl) (kC (kB (kX (fun _=>rfl) id)) hf.out)
 ·have e4:=((jC hf.out).2.1 (hd 4 rfl))
  have e5:=((jC hf.out).2.2.1 (hd 5 rfl))
  go_simp
  go_at_call 52
  refine (um h0 kk ee _).mono ?_
  rintro _ wy ⟨rfl,hE⟩
  rw [Wm.out]
  refine hK.out (upd s 29 (.tuple #[.agg (aa H1),.int .i64 cc])) _ _ (by simp [ae,e4,e5] <;> rfl) (kX (bT hf.out.1 hE) (kC (kB (kX (fun _=>rfl) (kX (nU (hn 7 rfl)) (kX (nU (hn 8 rfl)) (kX (nU (hn 9 rfl)) (kX (fun h=>gy.below ((jD hf.out).2.2.2.1 h) hE) (fun _=>nU (hn 12 rfl))))))))) hf.out)
 ·have e6:=((jC hf.out).2.2.2.1 (hd 6 rfl))
  go_simp
  refine hK.out (upd s 22 (.tuple #[.agg (aa H1),.int .i64 cc])) _ _ (by simp [ae,e6] <;> rfl) (kD (kX (fun _=>rfl) id) hf.out)
 ·have e7:=((jD hf.out).1 (hd 7 rfl))
  go_simp
  refine hK.out (upd s 30 (.agg (aa H1))) _ _ (by simp [ae,e7] <;> rfl) (kD (kA (kX (fun _=>rfl) id)) hf.out)
 ·have e7:=((jD hf.out).1 (hd 7 rfl))
  go_simp
  refine hK.out (upd s 31 (.int .i64 cc)) _ _ (by simp [ae,e7] <;> rfl) (kD (kB (kX (fun _=>rfl) id)) hf.out)
 ·go_simp
  refine hK.out (upd s 9 (.pointer (some ⟨wx.heap.size,0,none⟩))) _ _ (by simp [ae] <;> rfl) (kX (bT hf.out.1 (aQ _ _)) (kD (kB (kX (fun _=>by rw [show upd l 10 true 11=false from hn 11 rfl];exact gy.new (Below.size hf.out.1)) id))) hf.out)
 ·have e8:=((jD hf.out).2.1 (hd 8 rfl))
  obtain ⟨bb,eb,hlo,zb⟩:=((jD hf.out).2.2.2.1 (hd 10 rfl))
  rw [hl] at zb
  dsimp only [cond] at zb
  have zn:hp (bY wx bb (aa H1)) bb=some (.cells (aa H1) 49):=fH zb
  go_simp
  refine hK.out (s) _ _ (by simp [ae,eb,e8] <;> rfl) (kX (Fb hf.out.1 hlo) (kD (kB (kX (fun _=>⟨bb,eb,hlo,zn⟩) id))) hf.out)
 ·have e9:=((jD hf.out).2.2.1 (hd 9 rfl))
  go_simp
  refine hK.out (upd s 10 (.int .i64 cc)) _ _ (by simp [ae,e9] <;> rfl) (kD (kC (fun _=>fun _=>rfl)) hf.out)
theorem nL (x:Wo) (who kk ee:Int) (a b d e:Option Addr) (p q r s:Nat) (w:World) (h:iG w w.heap.size x a b d e) (z:kT x a b d e p q r s) (m:lJ x) :
  Calls Tryz.prog 13 #[xc x a b d e p q r s,.int .i64 who,.agg #[.int .i64 kk,.int .i64 ee]] w fun r w'=>iM w w' (asked x who kk ee).1 (.int .i64 (asked x who kk ee).2) r:=by
 cases hk:bJ x with
 | false =>
  rw [show asked x who kk ee=(Wo.zero,3) by simp [asked,hk]]
  exact KG x who kk ee a b d e p q r s w h m hk
 | true =>
  cases ht:kG x.hands.length who with
  | false =>
   rw [show asked x who kk ee=(Wo.zero,3) by simp [asked,hk,qZ,ht]]
   exact KH x who kk ee a b d e p q r s w h m hk ht
  | true =>
   obtain ⟨i,rfl⟩:∃ i:Nat,who=(i:Int):=⟨who.toNat,by simp [kG,dm] at ht;omega⟩
   exact KI x i kk ee a b d e p q r s w h z m hk (by simp [kG,dm] at ht;omega)
end
section
open Go.RowKit
def gM (i:Nat):Wo→Wo × Bool:=fun y=>o6 y (i:Int)
theorem KL {x:Wo} {who:Int} (h:Lf x):Lf (o6 x who).1:=by
 obtain ⟨h1,h2,h3⟩:=h
 unfold o6 o5
 split
 ·exact ⟨h1,h2,h3⟩
 ·rename_i c1
  split
  ·exact ⟨h1,h2,h3⟩
  ·rename_i c2
   simp at c1
   refine ⟨by show 0≤x.now+1;omega,by show x.now+1≤20000;omega,?_⟩
   show (if (iC x.ch (dH x who)).2.1.pos == 0 then x.deals ++ [_] else x.deals).length≤1000
   split
   ·rename_i c3
    simp at c2 c3
    have:=c2 c3
    simp
    omega
   ·exact h3
theorem Ih {x:Wo} (h:bJ x=true):Lf x:=by
 have:=xL h
 unfold bJ fV at h
 simp at h
 exact ⟨this.1,this.2,h.1.2.2.2.1⟩
theorem Ii (f:Wo→Wo × Bool) (x:Wo):lN f 0 x=(x,0):=rfl
theorem Ij {f:Wo→Wo × Bool} {n:Nat} {x:Wo} (h:(f x).2=false):lN f (n+1) x=((f x).1,0):=by simp [lN,h]
theorem Nn {f:Wo→Wo × Bool} {n:Nat} {x:Wo} (h:(f x).2=true):lN f (n+1) x=((lN f n (f x).1).1,(lN f n (f x).1).2+1):=by simp [lN,h]
theorem nI.cells {w:World} {lo B:Nat} {x:Wo} (h:nI w lo B x):∃ (a b d e:Option Addr) (p q r s:Nat),hp w B=some (.cells #[.int .i64 x.ch.cap,.int .i64 x.ch.sent,.int .i64 x.ch.got,.int .i64 x.ch.fin,.slice a x.ch.cells.length p,.slice b x.ch.words.length q,.slice d x.hands.length r,.slice e x.deals.length s,.int .i64 x.now] 35)∧ry w lo (.slice a x.ch.cells.length p) (.slice b x.ch.words.length q) (.slice d x.hands.length r) (.slice e x.deals.length s) x∧lo≤B:=h
theorem zw (x:Wo) (most:Int) (i k:Nat) (a b d e:Option Addr) (p q r s:Nat) (w:World) (h:iG w w.heap.size x a b d e) (z:kT x a b d e p q r s) (m:lJ x) (hb:Lf x) (hk:k<w.heap.size) (hc:w.cell? ⟨k,0,none⟩=some (.int .i64 i))
  (HF:∀ (y:Wo) (lo B:Nat) (W:World),Lf y→y.hands.length=x.hands.length→W.cell? ⟨k,0,none⟩=some (.int .i64 i)→nI W lo B y→Calls Tryz.prog 54 #[.pointer (some ⟨B,0,none⟩),.pointer (some ⟨k,0,none⟩)] W fun r w'=>(r=.returned (.bool (gM i y).2)∧nI w' lo B (gM i y).1)∧Below lo W w')
  (HN:∀ y:Wo,Lf y→Lf (gM i y).1∧(gM i y).1.hands.length=y.hands.length) :
  Calls Tryz.prog 53 #[xc x a b d e p q r s,.int .i64 most,.func (.func 54) #[] #[.pointer (some ⟨k,0,none⟩)]] w fun r w'=>iM w w' (if dm most 0 20000 then (lN (gM i) most.toNat x).1 else x) (.int .i64 (if dm most 0 20000 then ((lN (gM i) most.toNat x).2:Int) else -1)) r:=by
 have HW:=Lib.hid h
 have HZ:=Lib.hid z
 have Wx:=Lib.hid HF
 have Wy:=Lib.hid HN
 clear h z HF HN
 obtain ⟨Yw,Lg⟩:∃ Yw,Hid (Yw=if dm most 0 20000 then (lN (gM i) most.toNat x).1 else x):=⟨_,rfl⟩
 obtain ⟨Yn,Np⟩:∃ Yn,Hid (Yn=if dm most 0 20000 then ((lN (gM i) most.toNat x).2:Int) else -1):=⟨_,rfl⟩
 rw [← Lg.out,← Np.out]
 go_enter Tryz.func53,Tryz.ntmps53
 go_wp2_with fail
 refine ax w zB fun bb=>?_
 refine (xz x a b d e p q r s _ (HW.out.at bb) HZ.out m).mono ?_
 rintro _ w3 ⟨⟨B,v1,v2,v3,v4,rfl,Nk,PW,HO⟩,aO⟩
 have ig:Below w.heap.size w w3:=bT bb aO
 have df:=aO.size;(try (simp at df));have zz:=hQ aO (b:=w.heap.size);(first|(simp [go_sem,dw,dJ] at zz)|(simp [go_sem] at zz));(try clear dV eD);(try clear dw);have dw:=zz;clear zz;(try clear dJ);obtain ⟨dV,eD,dJ⟩:=bO dw;have zz:=hQ aO (b:=w.heap.size+1);(first|(simp [go_sem,bz,bZ] at zz)|(simp [go_sem] at zz));(try clear di dz);(try clear bz);have bz:=zz;clear zz;(try clear bZ);obtain ⟨di,dz,bZ⟩:=bO bz
 obtain ⟨lo,hlo⟩:∃ lo,lo=w.heap.size+1+1:=⟨_,rfl⟩
 simp at Nk HO
 rw [show w.heap.size+1+1=lo from hlo.symm] at Nk HO
 have hlo3:lo≤w3.heap.size:=by omega
 have BX:nI w3 lo B x:=nI.of PW HO Nk
 clear bb aO PW HO
 by_cases hm:dm most 0 20000=true
 case neg =>
  have hm2:dm most 0 20000=false:=by simpa using hm
  obtain rfl:Yw=x:=by rw [Lg.out,hm2];rfl
  obtain rfl:Yn=-1:=by rw [Np.out,hm2];rfl
  clear Lg Np
  obtain ⟨ya,yb,yd,ye,yp,yq,yr,ys,nJ,⟨k1,k2,k3,k4⟩,_⟩:=nI.cells BX
  obtain ⟨BU,Ig,KD⟩:=bO nJ
  have n1:w.heap.size+1≠B:=by omega
  have n2:B≠w.heap.size+1:=by omega
  have n3:w.heap.size+1<B:=by omega
  go_wp2_with (go_at_call 45;refine (dX _ _ _).mono ?_;rintro _ _ ⟨rfl,rfl⟩)
  refine bodyPost_ret (v:=.tuple #[.agg #[.int .i64 Yw.ch.cap,.int .i64 Yw.ch.sent,.int .i64 Yw.ch.got,.int .i64 Yw.ch.fin,.slice ya Yw.ch.cells.length yp,.slice yb Yw.ch.words.length yq,.slice yd Yw.hands.length yr,.slice ye Yw.deals.length ys,.int .i64 Yw.now],.int .i64 (-1)]) (by simp [results,Tryz.results53,go_sem, *]) rfl ⟨⟨_,_,_,_,rfl,av (lo:=lo) (zW k1 bz) tO,av (lo:=lo) (zW k2 bz) tO,av (lo:=lo) (zW k3 bz) tO,av (lo:=lo) (zW k4 bz) tO⟩,by exact zB⟩
 have hm0:0≤most∧most≤20000:=by simpa [dm] using hm
 obtain ⟨M,rfl⟩:∃ M:Nat,most=(M:Int):=⟨most.toNat,by omega⟩
 have hR:Hid (Yw=(lN (gM i) M x).1∧Yn=(lN (gM i) M x).2):=⟨by rw [Lg.out,hm];simp,by rw [Np.out,hm];simp⟩
 clear Lg Np
 go_wp2_with (go_at_call 45;refine (dX _ _ _).mono ?_;rintro _ _ ⟨rfl,rfl⟩)
 go_loopw [9] (fun t wr=>∃ (j:Nat) (y:Wo),j≤M∧t=.int .i64 j∧Lf y∧y.hands.length=x.hands.length∧Hid (Yw=(lN (gM i) (M - j) y).1∧Yn=((lN (gM i) (M - j) y).2:Int)+j)∧nI wr lo B y∧Below lo w3 wr) (fun t _=>M - (intOf t).toNat)
 case atStart=>exact ⟨0,x,by omega,rfl,hb,rfl,⟨by simpa using hR.out.1,by simpa using hR.out.2⟩,BX,Below.refl _ _⟩
 case round =>
  clear BX hR
  obtain ⟨j,y,hj,rfl,hby,hyl,hY,BX,hBr⟩:=hrel
  have CY:=hBr.size
  replace dw:=(hBr.block w.heap.size tO).trans dw
  replace bz:=(hBr.block (w.heap.size+1) tO).trans bz
  clear dV eD dJ di dz bZ
  obtain ⟨di,dz,bZ⟩:=bO bz
  by_cases hlt:j<M
  ·have hd:decide ((j:Int)<(M:Int))=true:=by simp;omega
   go_wp2_with fail
   refine (Wx.out y lo B _ hby hyl ((hBr.cell (p:=⟨k,0,none⟩) (by simp;omega)).trans ((ig.cell (p:=⟨k,0,none⟩) hk).trans hc)) BX).mono ?_
   rintro _ w6 ⟨⟨rfl,Pj⟩,I9⟩
   have hs6:=I9.size
   obtain ⟨hb2,hl2⟩:=Wy.out y hby
   cases hf:(gM i y).2 with
   | true =>
    go_wp2
    go_roundw
    case rel=>exact ⟨j+1,(gM i y).1,by omega,by go_num,hb2,hl2.trans hyl,by rw [show M - j=(M - (j+1))+1 by omega] at hY;have h2:=hY.out;rw [Nn hf] at h2;exact ⟨h2.1,by rw [h2.2];push_cast;omega⟩,Pj,hBr.trans I9⟩
    case measure=>simp [intOf];omega
   | false =>
    have h2:=hY.out
    rw [show M - j=(M - (j+1))+1 by omega,Ij hf] at h2
    obtain ⟨h5,h3⟩:=h2
    have h6:(gM i y).1=Yw:=h5.symm
    rw [h6] at Pj
    have h4:Yn=(j:Int):=by rw [h3];simp
    clear h3
    subst h4
    clear hY BX
    have BX:=Pj
    clear Pj
    obtain ⟨ya,yb,yd,ye,yp,yq,yr,ys,nJ,⟨k1,k2,k3,k4⟩,_⟩:=nI.cells BX
    obtain ⟨BU,Ig,KD⟩:=bO nJ
    replace bz:=(I9.block (w.heap.size+1) tO).trans bz
    clear di dz bZ
    obtain ⟨di,dz,bZ⟩:=bO bz
    have Wz:Below w.heap.size w w6:=ig.trans (((hBr.trans I9)).mono tO)
    have n1:w.heap.size+1≠B:=by omega
    have n2:B≠w.heap.size+1:=by omega
    have n3:w.heap.size+1<B:=by omega
    clear hl2 hyl hb2 hby hm hm0 hj hlt h5 h6
    go_wp2
    refine bodyPost_ret (v:=.tuple #[.agg #[.int .i64 Yw.ch.cap,.int .i64 Yw.ch.sent,.int .i64 Yw.ch.got,.int .i64 Yw.ch.fin,.slice ya Yw.ch.cells.length yp,.slice yb Yw.ch.words.length yq,.slice yd Yw.hands.length yr,.slice ye Yw.deals.length ys,.int .i64 Yw.now],.int .i64 j]) (by simp [results,Tryz.results53,go_sem, *]) rfl ⟨⟨_,_,_,_,rfl,av (lo:=lo) (zW k1 bz) tO,av (lo:=lo) (zW k2 bz) tO,av (lo:=lo) (zW k3 bz) tO,av (lo:=lo) (zW k4 bz) tO⟩,by exact zB⟩
  ·have:j=M:=by omega
   subst this
   have hd:decide ((j:Int)<(j:Int))=false:=by simp
   have h2:=hY.out
   simp [Ii] at h2
   obtain ⟨rfl,rfl⟩:=h2
   clear hY
   obtain ⟨ya,yb,yd,ye,yp,yq,yr,ys,nJ,⟨k1,k2,k3,k4⟩,_⟩:=nI.cells BX
   obtain ⟨BU,Ig,KD⟩:=bO nJ
   have Wz:Below w.heap.size w wr:=ig.trans (hBr.mono tO)
   have n1:w.heap.size+1≠B:=by omega
   have n2:B≠w.heap.size+1:=by omega
   have n3:w.heap.size+1<B:=by omega
   clear hyl hj hlt hm hm0
   go_wp2
   refine bodyPost_ret (v:=.tuple #[.agg #[.int .i64 Yw.ch.cap,.int .i64 Yw.ch.sent,.int .i64 Yw.ch.got,.int .i64 Yw.ch.fin,.slice ya Yw.ch.cells.length yp,.slice yb Yw.ch.words.length yq,.slice yd Yw.hands.length yr,.slice ye Yw.deals.length ys,.int .i64 Yw.now],.int .i64 j]) (by simp [results,Tryz.results53,go_sem, *]) rfl ⟨⟨_,_,_,_,rfl,av (lo:=lo) (zW k1 bz) tO,av (lo:=lo) (zW k2 bz) tO,av (lo:=lo) (zW k3 bz) tO,av (lo:=lo) (zW k4 bz) tO⟩,by exact zB⟩
end
end Go.Proofs.YtffhjmepfojhnaaGreat
