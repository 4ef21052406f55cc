/-
  The program's step, as a plain function; lists lie in memory and hold at most as much as memory can hold.
-/
import Derived.Test.YtffhjmepfojhnaaGreatS28
import Derived.Test.YtffhjmepfojhnaaGreatS33
import Derived.Test.YtffhjmepfojhnaaGreatS36
import Derived.Test.YtffhjmepfojhnaaGreatS37
import Derived.Test.YtffhjmepfojhnaaGreatS01
import Derived.Test.YtffhjmepfojhnaaGreatS32
import Derived.Test.YtffhjmepfojhnaaGreatS21
import Derived.Test.YtffhjmepfojhnaaGreatS03
import Derived.Test.YtffhjmepfojhnaaGreatS04
import Derived.Test.YtffhjmepfojhnaaGreatS34
import Derived.Test.YtffhjmepfojhnaaGreatS15
set_option maxRecDepth 100000
set_option maxHeartbeats 8000000
set_option linter.unusedSimpArgs false
set_option linter.unusedVariables false
namespace Go.Proofs.YtffhjmepfojhnaaGreat
open _root_.Go.Proofs.Tryz
section
open Go.RowKit
attribute [local simp] aP
attribute [local go_sem ↓] aQ bF aY bY aZ bZ aX bB aN aU
theorem Kj (c:Ch) (h:Ha) (a b:Option Addr) (p q:Nat) (w:World) (h1:fA w w a c.cells) (u:a=none→p=0) (m:fD w w b c.words) (y:b=none→q=0) (z:c.cells.length≤maxLen) (A:c.words.length≤maxLen) :
  Calls prog 105 #[.agg (aF c (.slice a c.cells p) (.slice b c.words q)),.agg (aB h)] w fun r w'=>dE w w' (iO c h) r:=by
 have hp:h.pos≤0∨(1≤h.pos∧h.pos≤8)∨(9≤h.pos∧h.pos≤15)∨(16≤h.pos∧h.pos≤22)∨(23≤h.pos∧h.pos≤25)∨26≤h.pos:=by omega
 rcases hp with hp|hp|hp|hp|hp|hp
 ·rw [DD c h (.inl hp)];exact JS c h a b p q w h1 u m y hp
 ·have e:iO c h=bI c h:=by unfold iO;rw [show dA h.pos 1 8=true by simp [dA];omega];rfl
  rw [e]
  exact FZ _ c h a b p q w h1 u m y (fun a b p q w h1 u m y=>ym c h a b p q w h1 u m y z A) hp
 ·have e:iO c h=eF c h:=by unfold iO;rw [show dA h.pos 1 8=false by simp [dA];omega,show dA h.pos 9 15=true by simp [dA];omega];rfl
  rw [e]
  exact Ga _ c h a b p q w h1 u m y (fun a b p q w h1 u m y=>qW c h a b p q w h1 u m y z A) hp
 ·have e:iO c h=dQ c h:=by unfold iO;rw [show dA h.pos 1 8=false by simp [dA];omega,show dA h.pos 9 15=false by simp [dA];omega,show dA h.pos 16 22=true by simp [dA];omega];rfl
  rw [e]
  exact Gb _ c h a b p q w h1 u m y (fun a b p q w h1 u m y=>qY c h a b p q w h1 u m y z A) hp
 ·have e:iO c h=bV c h:=by unfold iO;rw [show dA h.pos 1 8=false by simp [dA];omega,show dA h.pos 9 15=false by simp [dA];omega,show dA h.pos 16 22=false by simp [dA];omega];rfl
  rw [e]
  exact Gc _ c h a b p q w h1 u m y (fun a b p q w h1 u m y=>qR c h a b p q w h1 u m y z A) hp
 ·rw [DD c h (.inr hp)];exact JU c h a b p q w h1 u m y hp
end
section
open Go.RowKit
def kS (w:World) (lo B:Nat) (x:Wo):Prop:=∃ (a b d e:Option Addr) (p1 p2 p3 p4:Nat),hp w B=some (.cells (iA x (.slice a x.ch.cells p1) (.slice b x.ch.words p2) (.slice d x.hands p3) (.slice e x.deals p4)) 35)∧dO w lo (.slice a x.ch.cells p1) (.slice b x.ch.words p2) (.slice d x.hands p3) (.slice e x.deals p4) x∧lo≤B
def yB (x:Wo):Prop:=0≤x.now∧x.now≤20000∧x.deals.length≤1000
theorem kS.of {w:World} {lo B:Nat} {x:Wo} {m u y A:Value} (z:hp w B=some (.cells (iA x m u y A) 35)) (o:dO w lo m u y A x) (D:lo≤B):kS w lo B x:=by
 obtain ⟨a,p,rfl,_⟩:=aD.seg o.1
 obtain ⟨b,q,rfl,_⟩:=aG.seg o.2.1
 obtain ⟨d,r,rfl,_⟩:=cO.seg o.2.2.1
 obtain ⟨e,s,rfl,_⟩:=dV.seg o.2.2.2
 exact ⟨a,b,d,e,p,q,r,s,z,o,D⟩
theorem Nb {w:World} {k:Nat} {q:Array Value} {T:TypeId} (h:hp w k=some (.cells q T)):∀ m,some (⟨k,0,none⟩:Addr)=some m→∀ j u,q.toList[j]?=some u→w.cell? (m.add j)=some u:=by
 intro m e j u y
 simp at e
 subst e
 have r:(⟨k,0,none⟩:Addr).add j=⟨k,j,none⟩:=by
  simp [Addr.add];intro e;exact e.symm
 rw [r,(bO h).1 j]
 simpa using y
theorem Nc (a b c d e f g:Int):∀ u ∈ (#[Value.int .i64 a,.int .i64 b,.int .i64 c,.int .i64 d,.int .i64 e,.int .i64 f,.int .i64 g]:Array Value).toList,u.oneCell'=true:=by
 intro u m
 simp at m
 rcases m with rfl|rfl|rfl|rfl|rfl|rfl|rfl <;> rfl
attribute [local simp] aP
attribute [local go_sem ↓] aQ bF aY bY aZ bZ aX bB aN aU
attribute [local go_sem ↓] gK
attribute [local go_sem] fF
theorem Kk (c:Ch) (h:Ha) (a b:Option Addr) (p q lo lo':Nat) (w:World) (h1:aD w lo (.slice a c.cells p) c.cells) (y:aG w lo' (.slice b c.words q) c.words) :
  Calls prog 105 #[.agg (aF c (.slice a c.cells p) (.slice b c.words q)),.agg (aB h)] w fun r w'=>dE w w' (iO c h) r:=by
 obtain ⟨D,F,z⟩:=sJ h1 (fun i j m u=>jf c.cells i j m u)
 obtain ⟨E,G,A⟩:=sJ y (fun i j m u=>ints_at c.words i j m u)
 exact Kj c h a b p q w D F E G z A
theorem Ed (x:Wo) (i B lo:Nat) (w:World) (h:kS w lo B x) (hb:yB x) (hi:i<x.hands.length) :
  Calls prog 55 #[.pointer (some ⟨B,0,none⟩),.int .i64 i] w fun r w'=>(r=.returned (.bool (iw x i).2)∧kS w' lo B (iw x i).1)∧Below lo w w':=by
 obtain ⟨a,b,d,e,p1,p2,p3,p4,U,⟨o1,o2,o3,o4⟩,b2⟩:=h
 obtain ⟨g,vg,ev,cc,lg,c1,c6⟩:=cO.open1 o3 hi
 simp at ev
 obtain ⟨rfl,rfl⟩:=ev
 obtain ⟨I,b1⟩:∃ I,Hid (I=aL x i):=⟨_,rfl⟩
 obtain ⟨S,ay⟩:∃ S,Hid (S=iO x.ch I):=⟨_,rfl⟩
 obtain ⟨Y,az⟩:∃ Y,Hid (Y=iw x i):=⟨_,rfl⟩
 have HY:=aA (show Y=lM x i S by rw [az.out,ay.out,b1.out];rfl)
 rw [← az.out]
 obtain ⟨cl,cd,cg⟩:=hb
 have bz:(jU (.pointer (some ⟨g,i*14,none⟩))).run prog w=.ok (.agg (aB I)) w:=by rw [o3.ldAt hi,b1.out];simp [aL]
 have b5:Hid (∀ (W:World),aD W lo (.slice a x.ch.cells p1) x.ch.cells→aG W lo (.slice b x.ch.words p2) x.ch.words→Calls prog 105 #[.agg (aF x.ch (.slice a x.ch.cells p1) (.slice b x.ch.words p2)),.agg (aB I)] W fun r w'=>dE W w' S r):=fun W k1 k2=>by rw [ay.out];exact Kk x.ch I a b p1 p2 lo lo W k1 k2
 clear az ay
 have cj:(0:Int)≤(i:Int):=by omega
 have ck:(i:Int)<(x.hands.length:Int):=by omega
 have O1:=aA o1
 have O2:=aA o2
 obtain ⟨aa,av,cp⟩:=bO U
 have an:lo≤w.heap.size:=by omega
 simp only [iA] at aa
 go_enter func55,ntmps55
 go_wp2_with fail
 generalize al:World.alloc w _=w5
 have ai:hp w5 w=some (.cells (aB I) 49):=by rw [← al];exact heap_alloc_new _ _
 have ak:Below w w w5:=by rw [← al];exact aS _ _
 have cm:w5=w.heap.size+1:=by rw [← al];exact wL _ _
 clear al bz aa av
 have ap:=eP U ak
 refine iT [[],[0],[0,1],[0,1,2],[],[0,1,2,3,4],[0,1,2,3,4,5],[0,1,2,3,4,5,6],[0,1,2,3,4,5,6],[0,1,2,3,4,5,6],[],[],qB [10],[0,1,2,3,4,5,6,8,11],[0,1,2,3,4,5,6,9]] [18,19,20,21,22,23,17,24,25,26,6,7,8] (fun l s u=>(Below w5 w5 u)∧(l 0=true→s 18=.pointer (some ⟨B,0,none⟩))∧(l 1=true→s 19=.pointer (some ⟨B,0,none⟩))∧(l 2=true→s 20=.pointer (some ⟨B,0,none⟩))∧(l 3=true→s 21=.agg (aF x.ch (.slice a x.ch.cells p1) (.slice b x.ch.words p2)))∧(l 4=true→s 22=.agg (aB I))∧(l 5=true→s 23=.tuple #[.agg (aF S.1 (s 1003) (s 1004)),.agg (aB S.2.1),.bool S.2.2]∧aD u w5 (s 1003) S.1.cells∧aG u w5 (s 1004) S.1.words)∧(l 6=true→s 17=.tuple #[.agg (aF S.1 (s 1003) (s 1004)),.agg (aB S.2.1),.bool S.2.2])∧(l 7=true→s 24=.agg (aF S.1 (s 1003) (s 1004)))∧(l 8=true→s 25=.agg (aB S.2.1))∧(l 9=true→s 26=.bool S.2.2)∧(l 10=true→iI u (s 6) w5 (cond (l 12) (aF S.1 (s 1003) (s 1004)) (aF Ch.zero (.slice none 0 0) (.slice none 0 0))) 31)∧(l 11=true→iI u (s 7) w5 (cond (l 13) (aB S.2.1) (aB Ha.zero)) 49)∧(l 14=true→s 8=.bool S.2.2)) (fun s=>⟨(Below.refl _ _).drew,nB,nB,nB,nB,nB,nB,nB,nB,nB,nB,nB,nB,nB⟩) ?_ ?_
 refine ⟨?_,?_,?_,?_,?_,?_,?_,?_,?_,?_,?_,?_,?_,?_,?_,trivial⟩;iterate 15 (intro l s u hl A hn m K D;rotate_left)
 ·intro l s w8 E m
  have b0:=m.1
  obtain ⟨-,b3,b4⟩:=((jC m).2.2.1 (E 5 rfl))
  obtain ⟨gc,ea,cb,a7⟩:=((jD m).2.2.2.1 (E 10 rfl))
  obtain ⟨gh,eb,ci,X⟩:=((jC (jD m)).1 (E 11 rfl))
  have ec:=((jC (jD m)).2 (E 14 rfl))
  rw [E 12 rfl] at a7
  rw [E 13 rfl] at X
  dsimp only [cond] at a7 X
  simp only [ea,eb,ec]
  clear ea eb ec m E
  generalize s 1003=y1 at *
  generalize s 1004=y2 at *
  have a1:Below w w w8:=bT ak b0
  have aw:Below lo w w8:=a1.mono an
  replace U:=eP U a1
  replace ai:=eP ai b0
  replace o1:=own_below o1 a1
  replace o2:=own_below o2 a1
  replace o3:=own_below o3 a1
  replace o4:=own_below o4 a1
  have am:lo≤w8.heap.size:=Nat.le_trans an a1.size
  have cn:=b0.size
  clear ap O1 O2 b5
  obtain ⟨M,O,rfl,_⟩:=aD.seg b3
  obtain ⟨N,R,rfl,_⟩:=aG.seg b4
  obtain ⟨aa,av,_⟩:=bO U
  obtain ⟨ao,b7,ce⟩:=bO X
  have bh:w8.cell? ⟨B,8,none⟩=some (.int .i64 x.now):=aa 8
  have bg:w8.cell? ⟨B,7,none⟩=some (.slice e x.deals p4):=aa 7
  have bi:w8.cell? ⟨gh,0,none⟩=some (.int .i64 S.2.1.pos):=ao 0
  clear aa av ao b7
  have cr:g≠B:=bH o3 U (by decide) g rfl
  have cq:B≠gc:=by omega
  have ct:B≠gh:=by omega
  have cu:B≠w.heap.size:=by omega
  have cv:g≠gc:=by omega
  have cw:g≠gh:=by omega
  have cx:g≠w.heap.size:=by omega
  have aq:kS w8 lo B x:=⟨a,b,some ⟨g,0,none⟩,e,p1,p2,p3,p4,U,⟨o1,o2,o3,o4⟩,b2⟩
  by_cases a9:S.2.2=false∨x.now=20000
  ·obtain rfl:Y=(x,false):=by rw [HY.out];unfold lM;rcases a9 with h|h <;> simp [h]
   have be:S.2.2=false∨(S.2.2=true∧(x.now == 20000)=true):=by
    cases L:S.2.2 with
    | false=>exact .inl rfl
    | true=>exact .inr ⟨rfl,by rcases a9 with h|h <;> simp_all⟩
   clear HY a9
   rcases be with L|⟨L,a8⟩
   all_goals
    go_wp2
    go_ret
    exact ⟨⟨rfl,aq⟩,aw⟩
  obtain ⟨L,a8⟩:S.2.2=true∧(x.now == 20000)=false:=by
   constructor
   ·cases L:S.2.2 with
    | true=>rfl
    | false=>exact absurd (.inl L) a9
   ·have:¬ x.now=20000:=fun e=>a9 (.inr e)
    simp [this]
  clear a9
  by_cases T:(S.2.1.pos == 0)=true∧x.deals.length=1000
  ·obtain ⟨f1,f2⟩:=T
   obtain rfl:Y=(x,false):=by rw [HY.out];unfold lM;simp [L,a8,f1,f2]
   have f3:((x.deals.length:Int) == 1000)=true:=by simp [f2]
   clear HY f2
   go_wp2
   go_ret
   exact ⟨⟨rfl,aq⟩,aw⟩
  have c8:x.now<20000:=by
   have:¬ x.now=20000:=fun e=>by simp [e] at a8
   omega
  rcases (show ((S.2.1.pos == 0)=false∧Hid (0=0))∨((S.2.1.pos == 0)=true∧Hid (1=1)) by cases S.2.1.pos == 0 <;> simp [Hid]) with ⟨ae,mA⟩|⟨ae,mB⟩
  case' inl =>
   obtain rfl:Y=({ gY x i S.2.1 with now:=x.now+1,ch:=S.1 },true):=by rw [HY.out];unfold lM;simp [L,a8,ae,gY]
   clear HY T
  case' inr =>
   have bc:¬ x.deals.length=1000:=fun e=>T ⟨ae,e⟩
   obtain ⟨de,ba⟩:∃ de,Hid (de=KY x i S.2.1):=⟨_,rfl⟩
   obtain rfl:Y=({ gY x i S.2.1 with now:=x.now+1,ch:=S.1,deals:=x.deals ++ [de] },true):=by rw [HY.out];unfold lM;simp [L,a8,ae,bc,gY,ba.out]
   have f3:((x.deals.length:Int) == 1000)=false:=by simp;omega
   clear HY T
  all_goals
   go_wp2_with fail
   (try clear f3)
   clear L a8 ae bh bg bi
   refine iT [[],[],[1],[1,2],[1,2,3],[],[],[],[0],[0,8],[0,6,8,9],[1,2,3,4,5],[1,2,3,4,5,7,11]] [48,49,50,51,52,53,54,55,56,57,58] (fun l s u=>(Below lo w u)∧(w8≤u.heap.size)∧(hp u B=some (.cells (iA (cond (l 10) { x with ch:=S.1 } x) (cond (l 10) (.slice M S.1.cells O) (.slice a x.ch.cells p1)) (cond (l 10) (.slice N S.1.words R) (.slice b x.ch.words p2)) (.slice (some ⟨g,0,none⟩) x.hands p3) (.slice e x.deals p4)) 35))∧(hp u gc=some (.cells (aF S.1 (.slice M S.1.cells O) (.slice N S.1.words R)) 31))∧(hp u gh=some (.cells (aB S.2.1) 49))∧(hp u w=some (.cells (aB I) 49))∧(aD u w5 (.slice M S.1.cells O) S.1.cells)∧(aG u w5 (.slice N S.1.words R) S.1.words)∧(cO u lo (.slice (some ⟨g,0,none⟩) x.hands p3) (cond (l 12) (x.hands.set i S.2.1) x.hands))∧(dV u lo (.slice e x.deals p4) x.deals)∧(l 0=true→s 48=.pointer (some ⟨B,0,none⟩))∧(l 1=true→s 49=.pointer (some ⟨B,0,none⟩))∧(l 2=true→s 50=.pointer (some ⟨B,0,none⟩))∧(l 3=true→s 51=.pointer (some ⟨B,6,none⟩))∧(l 4=true→s 52=.slice (some ⟨g,0,none⟩) x.hands p3)∧(l 5=true→s 53=.int .i64 i)∧(l 6=true→s 54=.agg (aF S.1 (.slice M S.1.cells O) (.slice N S.1.words R)))∧(l 7=true→s 55=.agg (aB S.2.1))∧(l 8=true→s 56=.pointer (some ⟨B,0,none⟩))∧(l 9=true→s 57=.pointer (some ⟨B,0,none⟩))∧(l 11=true→s 58=.pointer (some ⟨g,i*14,none⟩))) (fun s=>⟨aw.drew,Nat.le_refl _,U,a7,X,ai,b3.drew,b4.drew,o3.drew,o4.drew,nB,nB,nB,nB,nB,nB,nB,nB,nB,nB,nB⟩) ?_ ?_
   refine ⟨?_,?_,?_,?_,?_,?_,?_,?_,?_,?_,?_,?_,?_,trivial⟩;iterate 13 (intro l s u hl A hn m K D;rotate_left)
   ·intro l s wd E m
    have b8:=m.1
    have cf:=m.2.1
    have y:=m.2.2.1
    have ah:=m.2.2.2.2.1
    have aj:=(jC m).2.1
    have x1:=(jC m).2.2.1
    have x2:=(jC m).2.2.2.1
    have x3:=(jD m).1
    have x4:=(jD m).2.1
    rw [E 10 rfl] at y
    rw [E 12 rfl] at x3
    dsimp only [cond] at y x3
    clear m E
    first
    | (
      have _:=mA
      have ag:wd.cell? ⟨B,8,none⟩=some (.int .i64 x.now):=(bO y).1 8
      have ab:=(bO y).2.1
      have af:=(bO y).2.2
      go_wp2_with fail
      generalize a2:World.setCell wd _ _=we
      have Z:wd.grownBy we (some B):=by rw [← a2];exact gS (gR B wd) (.inl rfl)
      obtain ⟨xn,a3⟩:∃ xn,Hid (xn=({ gY x i S.2.1 with now:=x.now+1,ch:=S.1 }:Wo)):=⟨_,rfl⟩
      have a4:xn.now=x.now+1:=by rw [a3.out]
      have a5:hp we B=some (.cells (iA xn (.slice M S.1.cells O) (.slice N S.1.words R) (.slice (some ⟨g,0,none⟩) x.hands p3) (.slice e x.deals p4)) 35):=by rw [← a2,gG,y,a3.out];rfl
      have k1:=aH (World.ownsRow.kept x1 Z (.inr fun G=>bH x1 y (by decide) _ G rfl)) (lo':=lo) tO
      have k2:=aH (World.ownsRow.kept x2 Z (.inr fun G=>bH x2 y (by decide) _ G rfl)) (lo':=lo) tO
      have k3:=World.ownsRow.kept x3 Z (.inr fun G=>bH x3 y (by decide) _ G rfl)
      have k4:=World.ownsRow.kept x4 Z (.inr fun G=>bH x4 y (by decide) _ G rfl)
      have ax:Below lo w we:=iN b8 Z tO (fun q hq=>by simp at hq;omega)
      have c9:=Z.size
      clear a2 ag ab af
      go_ret
      rw [a3.out] at a5
      exact ⟨⟨rfl,kS.of a5 ⟨k1,k2,k3,k4⟩ b2⟩,ax⟩
      done)
    | (
      have _:=mB
      have ag:wd.cell? ⟨B,8,none⟩=some (.int .i64 x.now):=(bO y).1 8
      have ab:=(bO y).2.1
      have af:=(bO y).2.2
      go_wp2_with fail
      generalize a2:World.setCell wd _ _=we
      have Z:wd.grownBy we (some B):=by rw [← a2];exact gS (gR B wd) (.inl rfl)
      obtain ⟨xn,a3⟩:∃ xn,Hid (xn=({ gY x i S.2.1 with now:=x.now+1,ch:=S.1 }:Wo)):=⟨_,rfl⟩
      have a4:xn.now=x.now+1:=by rw [a3.out]
      have a5:hp we B=some (.cells (iA xn (.slice M S.1.cells O) (.slice N S.1.words R) (.slice (some ⟨g,0,none⟩) x.hands p3) (.slice e x.deals p4)) 35):=by rw [← a2,gG,y,a3.out];rfl
      have k1:=aH (World.ownsRow.kept x1 Z (.inr fun G=>bH x1 y (by decide) _ G rfl)) (lo':=lo) tO
      have k2:=aH (World.ownsRow.kept x2 Z (.inr fun G=>bH x2 y (by decide) _ G rfl)) (lo':=lo) tO
      have k3:=World.ownsRow.kept x3 Z (.inr fun G=>bH x3 y (by decide) _ G rfl)
      have k4:=World.ownsRow.kept x4 Z (.inr fun G=>bH x4 y (by decide) _ G rfl)
      have ax:Below lo w we:=iN b8 Z tO (fun q hq=>by simp at hq;omega)
      have c9:=Z.size
      have bx:=aA (show (gM de)=#[.int .i64 i,.int .i64 I.code,.int .i64 I.elem,.int .i64 I.beg,.int .i64 (x.now+1),.int .i64 S.2.1.reply,.int .i64 S.2.1.out] by rw [ba.out,b1.out];rfl)
      have bj:=(bE Z (bO ah).2.2 (by simp;omega)).trans ah
      have bk:=(bE Z (bO aj).2.2 (by simp;omega)).trans aj
      have ad:lo≤we.heap.size:=by omega
      obtain ⟨i6,c7,ca,bf,b9⟩:=info_parts nV
      clear a2 Z ag ab af y ah aj x1 x2 x3 x4 U a7 X ai b3 b4 o1 o2 o3 o4 aq c1 c6
      refine iT [[],[],[1],[1,2],[1,2,3],[],[],[6],[],[8],[],[10],[10,11],[10,11,12],[],[14],[],[16],[5,6,7,8,9,10,11,12,13,14,15,16,17],[5,6,7,8,9,10,11,12,13,14,15,16,17,18],[1,2,3,4,5,6,7,8,9,10,11,12,13,14,15,16,17,18,19],[0],[0,21],qC [16,17,18,19,20,21,22]] [67,68,69,70,71,72,73,74,75,76,77,78,79,80,81,82,83,84,85,86,87,88,89] (fun l s u=>(Below lo w u)∧(we≤u.heap.size)∧(hp u B=some (.cells (iA xn (.slice M S.1.cells O) (.slice N S.1.words R) (.slice (some ⟨g,0,none⟩) x.hands p3) (cond (l 23) (s 1005) (.slice e x.deals p4))) 35))∧(hp u gh=some (.cells (aB S.2.1) 49))∧(hp u w=some (.cells (aB I) 49))∧(aD u lo (.slice M S.1.cells O) S.1.cells)∧(aG u lo (.slice N S.1.words R) S.1.words)∧(cO u lo (.slice (some ⟨g,0,none⟩) x.hands p3) (x.hands.set i S.2.1))∧(l 20=false→dV u lo (.slice e x.deals p4) x.deals)∧(l 0=true→s 67=.pointer (some ⟨B,0,none⟩))∧(l 1=true→s 68=.pointer (some ⟨B,0,none⟩))∧(l 2=true→s 69=.pointer (some ⟨B,0,none⟩))∧(l 3=true→s 70=.pointer (some ⟨B,7,none⟩))∧(l 4=true→s 71=.slice e x.deals p4)∧(l 5=true→s 72=.int .i64 i)∧(l 6=true→s 73=.pointer (some ⟨w,1,none⟩))∧(l 7=true→s 74=.agg #[I.code,I.elem])∧(l 8=true→s 75=.pointer (some ⟨w,11,none⟩))∧(l 9=true→s 76=.int .i64 I.beg)∧(l 10=true→s 77=.pointer (some ⟨B,0,none⟩))∧(l 11=true→s 78=.pointer (some ⟨B,0,none⟩))∧(l 12=true→s 79=.pointer (some ⟨B,8,none⟩))∧(l 13=true→s 80=.int .i64 (x.now+1))∧(l 14=true→s 81=.pointer (some ⟨gh,12,none⟩))∧(l 15=true→s 82=.int .i64 S.2.1.reply)∧(l 16=true→s 83=.pointer (some ⟨gh,13,none⟩))∧(l 17=true→s 84=.int .i64 S.2.1.out)∧(l 18=true→s 85=.agg #[.int .i64 i,I.code,I.elem,I.beg,.int .i64 (x.now+1),.int .i64 S.2.1.reply,.int .i64 S.2.1.out])∧(l 19=true→l 20=false→∃ k,s 86=.slice (some ⟨k,0,none⟩) 1 1∧hp u k=some (.cells #[.int .i64 i,I.code,I.elem,I.beg,.int .i64 (x.now+1),.int .i64 S.2.1.reply,.int .i64 S.2.1.out] 44))∧(l 20=true→s 87=s 1005∧dV u lo (s 1005) (x.deals ++ [de]))∧(l 21=true→s 88=.pointer (some ⟨B,0,none⟩))∧(l 22=true→s 89=.pointer (some ⟨B,7,none⟩))) (fun s=>⟨ax.drew,Nat.le_refl _,a5,bj,bk,k1.drew,k2.drew,k3.drew,fun _=>k4.drew,nB,nB,nB,nB,nB,nB,nB,nB,nB,nB,nB,nB,nB,nB,nB,nB,nB,nB,nB,nB,nB,nB,nB⟩) ?_ ?_
      refine ⟨?_,?_,?_,?_,?_,?_,?_,?_,?_,?_,?_,?_,?_,?_,?_,?_,?_,?_,?_,?_,?_,?_,?_,?_,trivial⟩;iterate 24 (intro l s u hl A hn m K D;rotate_left)
      ·intro l s wf E m
       have bw:=m.1
       have a6:=m.2.2.1
       have m1:=(jC m).2.1
       have m2:=(jC m).2.2.1
       have m3:=(jC m).2.2.2.1
       have m4:=(((jC (jD (jE m))).2.1 (E 20 rfl))).2
       rw [E 23 rfl] at a6
       dsimp only [cond] at a6
       clear m E
       go_wp2
       go_ret
       rw [a3.out] at a6
       exact ⟨⟨rfl,kS.of (x:={ gY x i S.2.1 with now:=x.now+1,ch:=S.1,deals:=x.deals ++ [de] }) a6 ⟨m1,m2,m3,m4⟩ b2⟩,bw⟩
      ·go_simp
       refine D.out (upd s 67 (.pointer (some ⟨B,0,none⟩))) _ _ (by simp [aC] <;> rfl) (kD (kA (kX (fun _=>rfl) id)) m.out)
      ·go_simp
       refine D.out (upd s 68 (.pointer (some ⟨B,0,none⟩))) _ _ (by simp [aC] <;> rfl) (kD (kB (kX (fun _=>rfl) id)) m.out)
      ·have e1:=((jD m.out).2.2.1 (A 1 rfl))
       go_simp
       refine D.out (upd s 69 (.pointer (some ⟨B,0,none⟩))) _ _ (by simp [aC,e1] <;> rfl) (kD (kB (kA (kX (fun _=>rfl) id))) m.out)
      ·have e2:=((jD m.out).2.2.2.1 (A 2 rfl))
       go_simp
       refine D.out (upd s 70 (.pointer (some ⟨B,7,none⟩))) _ _ (by simp [aC,e2] <;> rfl) (kD (kC (kX (fun _=>rfl) id)) m.out)
      ·have e3:=((jC (jD m.out)).1 (A 3 rfl))
       have zz:=m.out.2.2.1
       rw [show l 23=false from hn 23 rfl] at zz
       have q:u.cell? ⟨B,7,none⟩=some (.slice e x.deals p4):=(bO zz).1 7
       go_simp
       refine D.out (upd s 71 (.slice e x.deals p4)) _ _ (by simp [aC,e3] <;> rfl) (kD (kC (kA (kX (fun _=>rfl) id))) m.out)
      ·go_simp
       refine D.out (upd s 72 (.int .i64 i)) _ _ (by simp [aC] <;> rfl) (kD (kC (kB (kX (fun _=>rfl) id))) m.out)
      ·go_simp
       refine D.out (upd s 73 (.pointer (some ⟨w,1,none⟩))) _ _ (by simp [aC] <;> rfl) (kD (kC (kB (kA (kX (fun _=>rfl) id)))) m.out)
      ·have e6:=((jC (jD m.out)).2.2.2.1 (A 6 rfl))
       have q1:u.cell? ⟨w,1,none⟩=some (.int .i64 I.code):=(bO m.out.2.2.2.2.1).1 1
       have q2:u.cell? ⟨w,2,none⟩=some (.int .i64 I.elem):=(bO m.out.2.2.2.2.1).1 2
       go_simp
       refine D.out (upd s 74 (.agg #[I.code,I.elem])) _ _ (by simp [aC,e6] <;> rfl) (kE (kX (fun _=>rfl) id) m.out)
      ·go_simp
       refine D.out (upd s 75 (.pointer (some ⟨w,11,none⟩))) _ _ (by simp [aC] <;> rfl) (kE (kA (kX (fun _=>rfl) id)) m.out)
      ·have e8:=((jE m.out).2.1 (A 8 rfl))
       have q1:u.cell? ⟨w,11,none⟩=some (.int .i64 I.beg):=(bO m.out.2.2.2.2.1).1 11
       go_simp
       refine D.out (upd s 76 (.int .i64 I.beg)) _ _ (by simp [aC,e8] <;> rfl) (kE (kB (kX (fun _=>rfl) id)) m.out)
      ·go_simp
       refine D.out (upd s 77 (.pointer (some ⟨B,0,none⟩))) _ _ (by simp [aC] <;> rfl) (kE (kB (kA (kX (fun _=>rfl) id))) m.out)
      ·have bl:=((jE m.out).2.2.2.1 (A 10 rfl))
       go_simp
       refine D.out (upd s 78 (.pointer (some ⟨B,0,none⟩))) _ _ (by simp [aC,bl] <;> rfl) (kE (kC (kX (fun _=>rfl) id)) m.out)
      ·have ar:=((jC (jE m.out)).1 (A 11 rfl))
       go_simp
       refine D.out (upd s 79 (.pointer (some ⟨B,8,none⟩))) _ _ (by simp [aC,ar] <;> rfl) (kE (kC (kA (kX (fun _=>rfl) id))) m.out)
      ·have bm:=((jC (jE m.out)).2.1 (A 12 rfl))
       have q1:u.cell? ⟨B,8,none⟩=some (.int .i64 (x.now+1)):=by rw [← a4];exact (bO m.out.2.2.1).1 8
       clear a4
       go_simp
       refine D.out (upd s 80 (.int .i64 (x.now+1))) _ _ (by simp [aC,bm] <;> rfl) (kE (kC (kB (kX (fun _=>rfl) id))) m.out)
      ·go_simp
       refine D.out (upd s 81 (.pointer (some ⟨gh,12,none⟩))) _ _ (by simp [aC] <;> rfl) (kE (kC (kB (kA (kX (fun _=>rfl) id)))) m.out)
      ·have bo:=((jC (jE m.out)).2.2.2.1 (A 14 rfl))
       have q1:u.cell? ⟨gh,12,none⟩=some (.int .i64 S.2.1.reply):=(bO m.out.2.2.2.1).1 12
       go_simp
       refine D.out (upd s 82 (.int .i64 S.2.1.reply)) _ _ (by simp [aC,bo] <;> rfl) (kE (kD (kX (fun _=>rfl) id)) m.out)
      ·go_simp
       refine D.out (upd s 83 (.pointer (some ⟨gh,13,none⟩))) _ _ (by simp [aC] <;> rfl) (kE (kD (kA (kX (fun _=>rfl) id))) m.out)
      ·have bq:=((jD (jE m.out)).2.1 (A 16 rfl))
       have q1:u.cell? ⟨gh,13,none⟩=some (.int .i64 S.2.1.out):=(bO m.out.2.2.2.1).1 13
       go_simp
       refine D.out (upd s 84 (.int .i64 S.2.1.out)) _ _ (by simp [aC,bq] <;> rfl) (kE (kD (kB (kX (fun _=>rfl) id))) m.out)
      ·have e5:=((jC (jD m.out)).2.2.1 (A 5 rfl))
       have e7:=((jE m.out).1 (A 7 rfl))
       have G:=((jE m.out).2.2.1 (A 9 rfl))
       have bn:=((jC (jE m.out)).2.2.1 (A 13 rfl))
       have bp:=((jD (jE m.out)).1 (A 15 rfl))
       have br:=((jD (jE m.out)).2.2.1 (A 17 rfl))
       go_simp
       refine D.out (upd s 85 (.agg #[.int .i64 i,I.code,I.elem,I.beg,.int .i64 (x.now+1),.int .i64 S.2.1.reply,.int .i64 S.2.1.out])) _ _ (by simp [aC,e5,e7,G,bn,bp,br] <;> rfl) (kE (kD (kB (kA (kX (fun _=>rfl) id)))) m.out)
      ·have bt:=((jD (jE m.out)).2.2.2.1 (A 18 rfl))
       have J:lo≤u.heap.size:=Nat.le_trans ad m.out.2.1
       go_simp
       refine D.out (upd s 86 (.slice (some ⟨u,0,none⟩) 1 1)) _ _ (by simp [aC,bt] <;> rfl) (kX ((m.out.1).trans ((aS u _).mono J)) (kX (Nat.le_trans m.out.2.1 (Below.size (aS u _))) (kX (eP m.out.2.2.1 (aS u _)) (kX (eP m.out.2.2.2.1 (aS u _)) (kX (eP m.out.2.2.2.2.1 (aS u _)) (kX (own_below (jC m.out).2.1 (aS u _)) (kX (own_below (jC m.out).2.2.1 (aS u _)) (kX (own_below (jC m.out).2.2.2.1 (aS u _)) (kX (fun L=>own_below ((jD m.out).1 L) (aS u _)) (kE (kB (kA (kX (fun _ _=>⟨_,rfl,heap_alloc_new _ _⟩) (kX (nU (hn 20 rfl)) id))))))))))))) m.out)
      ·have e4:=((jC (jD m.out)).2.1 (A 4 rfl))
       have J:lo≤u.heap.size:=Nat.le_trans ad m.out.2.1
       have Ee:dV u lo (s 71) x.deals:=by rw [e4];exact (jD m.out).1 hl
       obtain ⟨kb,ek,zk⟩:=((jC (jD (jE m.out))).1 (A 19 rfl)) hl
       refine tK rfl _ _ 33 rfl lo 44 i6 _ 7 56 underlying33 c7 ca bf b9 rfl (by decide) (s 71) x.deals (kJ x.deals) rfl Ee (some ⟨kb,0,none⟩) 1 1 #[.int .i64 i,.int .i64 I.code,.int .i64 I.elem,.int .i64 I.beg,.int .i64 (x.now+1),.int .i64 S.2.1.reply,.int .i64 S.2.1.out].toList ek (fun h=>nomatch h) rfl (Nb zk) (Nc _ _ _ _ _ _ _) (by unfold maxLen;omega) tO J ?_
       intro v' w' o' g'
       refine D.out (upd (upd s 1005 (v')) 87 (v')) _ _ (by simp [aC,Act.put] <;> rfl) (kX (iN m.out.1 g' J (fun q hq=>(World.ownsRow.lt Ee q hq).1)) (kX (Nat.le_trans m.out.2.1 (World.grownBy.size g')) (kX (by (have zz:=m.out.2.2.1);(rw [show l 23=false from hn 23 rfl] at zz);rw [show upd l 20 true 23=false from hn 23 rfl];exact (bE g' (bO zz).2.2 (fun G=>bH Ee zz (by decide) _ G.symm rfl)).trans zz) (kX ((bE g' (bO m.out.2.2.2.1).2.2 (fun G=>bH Ee m.out.2.2.2.1 (by decide) _ G.symm rfl)).trans m.out.2.2.2.1) (kX ((bE g' (bO m.out.2.2.2.2.1).2.2 (fun G=>bH Ee m.out.2.2.2.2.1 (by decide) _ G.symm rfl)).trans m.out.2.2.2.2.1) (kX (World.ownsRow.kept (jC m.out).2.1 g' (dD (jC m.out).2.1 Ee (by decide))) (kX (World.ownsRow.kept (jC m.out).2.2.1 g' (dD (jC m.out).2.2.1 Ee (by decide))) (kX (World.ownsRow.kept (jC m.out).2.2.2.1 g' (dD (jC m.out).2.2.2.1 Ee (by decide))) (kX (fun L=>nU L (show upd l 20 true 20=true from rfl)) (kE (kB (kA (kX (fun _ L=>nU L (show upd l 20 true 20=true from rfl)) (kX (fun _=>⟨rfl,by rw [← bx.out] at o';exact dV.snoc o'⟩) id))))))))))))) m.out)
      ·have e0:=((jD m.out).2.1 (A 0 rfl))
       go_simp
       refine D.out (upd s 88 (.pointer (some ⟨B,0,none⟩))) _ _ (by simp [aC,e0] <;> rfl) (kE (kD (kC (kB (kX (fun _=>rfl) id)))) m.out)
      ·have bu:=((jC (jD (jE m.out))).2.2.1 (A 21 rfl))
       go_simp
       refine D.out (upd s 89 (.pointer (some ⟨B,7,none⟩))) _ _ (by simp [aC,bu] <;> rfl) (kE (kD (kC (kB (kA (fun _=>fun _=>rfl))))) m.out)
      ·have bv:=((jC (jD (jE m.out))).2.2.2 (A 22 rfl))
       have b6:=((jC (jD (jE m.out))).2.1 (A 20 rfl)).1
       have J:lo≤u.heap.size:=Nat.le_trans ad m.out.2.1
       have OD:=(((jC (jD (jE m.out))).2.1 (A 20 rfl))).2
       have H:=m.out.2.2.1
       rw [hl] at H
       dsimp only [cond] at H
       obtain ⟨na,nc,en,_⟩:=OD.seg
       rw [List.length_append,List.length_singleton] at en
       rw [en] at b6
       have fB:=(bO H).2.1
       have co:=(bO H).2.2
       have qB:u.cell? ⟨B,7,none⟩=some (.slice e x.deals p4):=(bO H).1 7
       have V:u.grownBy (u.setCell ⟨B,7,none⟩ (.slice na (x.deals.length+1) nc)) (some B):=gS (gR B u) (.inl rfl)
       have zn:hp (u.setCell ⟨B,7,none⟩ (.slice na (x.deals.length+1) nc)) B=some (.cells (iA xn (.slice M S.1.cells O) (.slice N S.1.words R) (.slice (some ⟨g,0,none⟩) x.hands p3) (s 1005)) 35):=by rw [en,gG,H];rfl
       go_simp
       refine D.out (s) _ _ (by simp [aC,bv,b6] <;> rfl) (kX (iN m.out.1 V J (fun q hq=>by simp at hq;omega)) (kX (Nat.le_trans m.out.2.1 (World.grownBy.size V)) (kX (zn) (kX ((bE V (bO m.out.2.2.2.1).2.2 (by simp;omega)).trans m.out.2.2.2.1) (kX ((bE V (bO m.out.2.2.2.2.1).2.2 (by simp;omega)).trans m.out.2.2.2.2.1) (kX (World.ownsRow.kept (jC m.out).2.1 V (.inr fun G=>bH (jC m.out).2.1 H (by decide) _ G rfl)) (kX (World.ownsRow.kept (jC m.out).2.2.1 V (.inr fun G=>bH (jC m.out).2.2.1 H (by decide) _ G rfl)) (kX (World.ownsRow.kept (jC m.out).2.2.2.1 V (.inr fun G=>bH (jC m.out).2.2.2.1 H (by decide) _ G rfl)) (kX (fun L=>nU L (A 20 rfl)) (kE (kB (kA (kX (fun _ L=>nU L (A 20 rfl)) (kX (fun L=>⟨((jC (jD (jE m.out))).2.1 L).1,World.ownsRow.kept ((jC (jD (jE m.out))).2.1 L).2 V (.inr fun G=>bH ((jC (jD (jE m.out))).2.1 L).2 H (by decide) _ G rfl)⟩) id))))))))))))) m.out)
      done)
   ·go_simp
    refine D.out (upd s 48 (.pointer (some ⟨B,0,none⟩))) _ _ (by simp [aC] <;> rfl) (kD (kB (kX (fun _=>rfl) id)) m.out)
   ·go_simp
    refine D.out (upd s 49 (.pointer (some ⟨B,0,none⟩))) _ _ (by simp [aC] <;> rfl) (kD (kB (kA (kX (fun _=>rfl) id))) m.out)
   ·have e1:=((jD m.out).2.2.2.1 (A 1 rfl))
    go_simp
    refine D.out (upd s 50 (.pointer (some ⟨B,0,none⟩))) _ _ (by simp [aC,e1] <;> rfl) (kD (kC (kX (fun _=>rfl) id)) m.out)
   ·have e2:=((jC (jD m.out)).1 (A 2 rfl))
    go_simp
    refine D.out (upd s 51 (.pointer (some ⟨B,6,none⟩))) _ _ (by simp [aC,e2] <;> rfl) (kD (kC (kA (kX (fun _=>rfl) id))) m.out)
   ·have e3:=((jC (jD m.out)).2.1 (A 3 rfl))
    have q:u.cell? ⟨B,6,none⟩=some (.slice (some ⟨g,0,none⟩) x.hands p3):=(bO m.out.2.2.1).1 6
    go_simp
    refine D.out (upd s 52 (.slice (some ⟨g,0,none⟩) x.hands p3)) _ _ (by simp [aC,e3] <;> rfl) (kD (kC (kB (kX (fun _=>rfl) id))) m.out)
   ·go_simp
    refine D.out (upd s 53 (.int .i64 i)) _ _ (by simp [aC] <;> rfl) (kD (kC (kB (kA (kX (fun _=>rfl) id)))) m.out)
   ·have q:=m.out.2.2.2.1
    go_simp
    refine D.out (upd s 54 (.agg (aF S.1 (.slice M S.1.cells O) (.slice N S.1.words R)))) _ _ (by simp [aC] <;> rfl) (kE (kX (fun _=>rfl) id) m.out)
   ·have q:=m.out.2.2.2.2.1
    go_simp
    refine D.out (upd s 55 (.agg (aB S.2.1))) _ _ (by simp [aC] <;> rfl) (kE (kA (kX (fun _=>rfl) id)) m.out)
   ·have e0:=((jD m.out).2.2.1 (A 0 rfl))
    go_simp
    refine D.out (upd s 56 (.pointer (some ⟨B,0,none⟩))) _ _ (by simp [aC,e0] <;> rfl) (kE (kB (kX (fun _=>rfl) id)) m.out)
   ·have e8:=((jE m.out).2.2.1 (A 8 rfl))
    go_simp
    refine D.out (upd s 57 (.pointer (some ⟨B,0,none⟩))) _ _ (by simp [aC,e8] <;> rfl) (kE (kB (kA (kX (fun _=>rfl) id))) m.out)
   ·have G:=((jE m.out).2.2.2.1 (A 9 rfl))
    have e6:=((jE m.out).1 (A 6 rfl))
    have H:=m.out.2.2.1
    rw [hl] at H
    dsimp only [cond] at H
    have hS:=Iq H S.1 M N S.1.cells O S.1.words R
    have J:lo≤u.heap.size:=Nat.le_trans am m.out.2.1
    go_simp
    refine D.out (s) _ _ (by simp [aC,G,e6] <;> rfl) (kX (iN m.out.1 (nK u B S.1 (.slice M S.1.cells O) (.slice N S.1.words R)) J (fun k hk=>by simp at hk;omega)) (kX (Nat.le_trans m.out.2.1 (World.grownBy.size (nK u B S.1 (.slice M S.1.cells O) (.slice N S.1.words R)))) (kX (MJ H S.1 _ _) (kX ((bE (nK u B S.1 (.slice M S.1.cells O) (.slice N S.1.words R)) (bO m.out.2.2.2.1).2.2 (by simp;omega)).trans m.out.2.2.2.1) (kX ((bE (nK u B S.1 (.slice M S.1.cells O) (.slice N S.1.words R)) (bO m.out.2.2.2.2.1).2.2 (by simp;omega)).trans m.out.2.2.2.2.1) (kX ((bE (nK u B S.1 (.slice M S.1.cells O) (.slice N S.1.words R)) (bO (jC m.out).2.1).2.2 (by simp;omega)).trans (jC m.out).2.1) (kX (World.ownsRow.kept (jC m.out).2.2.1 (nK u B S.1 (.slice M S.1.cells O) (.slice N S.1.words R)) (.inr fun G=>bH (jC m.out).2.2.1 H (by decide) _ G rfl)) (kX (World.ownsRow.kept (jC m.out).2.2.2.1 (nK u B S.1 (.slice M S.1.cells O) (.slice N S.1.words R)) (.inr fun G=>bH (jC m.out).2.2.2.1 H (by decide) _ G rfl)) (kX (World.ownsRow.kept (jD m.out).1 (nK u B S.1 (.slice M S.1.cells O) (.slice N S.1.words R)) (.inr fun G=>bH (jD m.out).1 H (by decide) _ G rfl)) (kX (World.ownsRow.kept (jD m.out).2.1 (nK u B S.1 (.slice M S.1.cells O) (.slice N S.1.words R)) (.inr fun G=>bH (jD m.out).2.1 H (by decide) _ G rfl)) id))))))))) m.out)
   ·have e4:=((jC (jD m.out)).2.2.1 (A 4 rfl))
    have e5:=((jC (jD m.out)).2.2.2.1 (A 5 rfl))
    go_simp
    refine D.out (upd s 58 (.pointer (some ⟨g,i*14,none⟩))) _ _ (by simp [aC,e4,e5] <;> rfl) (kE (kC (fun _=>fun _=>rfl)) m.out)
   ·have ar:=((jC (jE m.out)) (A 11 rfl))
    have e7:=((jE m.out).2.1 (A 7 rfl))
    have a0:=(jD m.out).1
    rw [hl] at a0
    dsimp only [cond] at a0
    have hS:=a0.stAt hi S.2.1
    have J:lo≤u.heap.size:=Nat.le_trans am m.out.2.1
    go_simp
    refine D.out (s) _ _ (by simp [aC,ar,e7] <;> rfl) (kX (iN m.out.1 (fM u g (i*14) S.2.1) J (fun k hk=>by simp at hk;omega)) (kX (Nat.le_trans m.out.2.1 (World.grownBy.size (fM u g (i*14) S.2.1))) (kX ((bE (fM u g (i*14) S.2.1) (bO m.out.2.2.1).2.2 (by simp;omega)).trans m.out.2.2.1) (kX ((bE (fM u g (i*14) S.2.1) (bO m.out.2.2.2.1).2.2 (by simp;omega)).trans m.out.2.2.2.1) (kX ((bE (fM u g (i*14) S.2.1) (bO m.out.2.2.2.2.1).2.2 (by simp;omega)).trans m.out.2.2.2.2.1) (kX ((bE (fM u g (i*14) S.2.1) (bO (jC m.out).2.1).2.2 (by simp;omega)).trans (jC m.out).2.1) (kX (World.ownsRow.kept (jC m.out).2.2.1 (fM u g (i*14) S.2.1) (.inr (gI (dD (jC m.out).2.2.1 a0 (by decide)) rfl))) (kX (World.ownsRow.kept (jC m.out).2.2.2.1 (fM u g (i*14) S.2.1) (.inr (gI (dD (jC m.out).2.2.2.1 a0 (by decide)) rfl))) (kX (cO.set a0 hi S.2.1) (kX (World.ownsRow.kept (jD m.out).2.1 (fM u g (i*14) S.2.1) (.inr (gI (dD (jD m.out).2.1 a0 (by decide)) rfl))) id))))))))) m.out)
 ·go_simp
  refine D.out (upd s 18 (.pointer (some ⟨B,0,none⟩))) _ _ (by simp [aC] <;> rfl) (kA (kX (fun _=>rfl) id) m.out)
 ·have e0:=(m.out.2.1 (A 0 rfl))
  go_simp
  refine D.out (upd s 19 (.pointer (some ⟨B,0,none⟩))) _ _ (by simp [aC,e0] <;> rfl) (kB (kX (fun _=>rfl) id) m.out)
 ·have e1:=(m.out.2.2.1 (A 1 rfl))
  go_simp
  refine D.out (upd s 20 (.pointer (some ⟨B,0,none⟩))) _ _ (by simp [aC,e1] <;> rfl) (kB (kA (kX (fun _=>rfl) id)) m.out)
 ·have e2:=(m.out.2.2.2.1 (A 2 rfl))
  have hL:=Bc (eP ap m.out.1)
  go_simp
  refine D.out (upd s 21 (.agg (aF x.ch (.slice a x.ch.cells p1) (.slice b x.ch.words p2)))) _ _ (by simp [aC,e2] <;> rfl) (kC (kX (fun _=>rfl) id) m.out)
 ·have z:=eP ai m.out.1
  go_simp
  refine D.out (upd s 22 (.agg (aB I))) _ _ (by simp [aC] <;> rfl) (kC (kA (kX (fun _=>rfl) id)) m.out)
 ·have e3:=(m.out.2.2.2.2.1 (A 3 rfl))
  have e4:=((jC m.out).2.1 (A 4 rfl))
  go_simp
  go_at_call 105
  refine (b5.out _ ((own_below O1.out (bT ak m.out.1))) ((own_below O2.out (bT ak m.out.1)))).mono ?_
  rintro _ wy ⟨⟨y1,y2,rfl,X1,X2,_,_⟩,hE⟩
  refine D.out (upd (upd (upd s 1003 (y1)) 1004 (y2)) 23 (.tuple #[.agg (aF S.1 y1 y2),.agg (aB S.2.1),.bool S.2.2])) _ _ (by simp [aC,e3,e4] <;> rfl) (kX (bT m.out.1 hE) (kC (kA (kX (fun _=>⟨rfl,aH X1 (Below.size m.out.1),aH X2 (Below.size m.out.1)⟩) (kX (nU (hn 6 rfl)) (kX (nU (hn 7 rfl)) (kX (nU (hn 8 rfl)) (kX (nU (hn 9 rfl)) (kX (fun h=>by (have ee:l 12=false:=hn 12 rfl);(have F:=(jD m.out).2.2.2.1 h);rw [ee] at F;rw [show upd l 5 true 12=false from ee];exact F.below hE) (kX (fun h=>by (have ee:l 13=false:=hn 13 rfl);(have F:=(jC (jD m.out)).1 h);rw [ee] at F;rw [show upd l 5 true 13=false from ee];exact F.below hE) (fun _=>nU (hn 14 rfl))))))))))) m.out)
 ·have e5:=((jC m.out).2.2.1 (A 5 rfl)).1
  go_simp
  refine D.out (upd s 17 (.tuple #[.agg (aF S.1 (s 1003) (s 1004)),.agg (aB S.2.1),.bool S.2.2])) _ _ (by simp [aC,e5] <;> rfl) (kC (kB (kA (kX (fun _=>rfl) id))) m.out)
 ·have e6:=((jC m.out).2.2.2.1 (A 6 rfl))
  go_simp
  refine D.out (upd s 24 (.agg (aF S.1 (s 1003) (s 1004)))) _ _ (by simp [aC,e6] <;> rfl) (kD (kX (fun _=>rfl) id) m.out)
 ·have e6:=((jC m.out).2.2.2.1 (A 6 rfl))
  go_simp
  refine D.out (upd s 25 (.agg (aB S.2.1))) _ _ (by simp [aC,e6] <;> rfl) (kD (kA (kX (fun _=>rfl) id)) m.out)
 ·have e6:=((jC m.out).2.2.2.1 (A 6 rfl))
  go_simp
  refine D.out (upd s 26 (.bool S.2.2)) _ _ (by simp [aC,e6] <;> rfl) (kD (kB (kX (fun _=>rfl) id)) m.out)
 ·go_simp
  refine D.out (upd s 6 (.pointer (some ⟨u,0,none⟩))) _ _ (by simp [aC] <;> rfl) (kX (bT m.out.1 (aS _ _)) (kC (kA (kX (fun h=>(let ⟨e,X1,X2⟩:=((jC m.out).2.2.1 h);⟨e,own_below X1 (aS _ _),own_below X2 (aS _ _)⟩)) (kC (kX (fun _=>by rw [show upd l 10 true 12=false from hn 12 rfl];exact iI.new (Below.size m.out.1)) (kX (fun h=>iI.below ((jC (jD m.out)).1 h) (aS _ _)) id)))))) m.out)
 ·go_simp
  refine D.out (upd s 7 (.pointer (some ⟨u,0,none⟩))) _ _ (by simp [aC] <;> rfl) (kX (bT m.out.1 (aS _ _)) (kC (kA (kX (fun h=>(let ⟨e,X1,X2⟩:=((jC m.out).2.2.1 h);⟨e,own_below X1 (aS _ _),own_below X2 (aS _ _)⟩)) (kC (kX (fun h=>iI.below ((jD m.out).2.2.2.1 h) (aS _ _)) (kX (fun _=>by rw [show upd l 11 true 13=false from hn 13 rfl];exact iI.new (Below.size m.out.1)) id)))))) m.out)
 ·have e7:=((jD m.out).1 (A 7 rfl))
  have e5:=((jC m.out).2.2.1 (A 5 rfl))
  have X1:=e5.2.1
  have X2:=e5.2.2
  clear e5
  obtain ⟨bb,eb,ac,zb⟩:=((jD m.out).2.2.2.1 (A 10 rfl))
  rw [hl] at zb
  dsimp only [cond] at zb
  obtain ⟨M,O,ea,_⟩:=X1.seg
  obtain ⟨N,R,au,_⟩:=X2.seg
  rw [ea,au] at e7
  have zn:hp (dF u bb (aF S.1 (.slice M S.1.cells O) (.slice N S.1.words R))) bb=some (.cells (aF S.1 (s 1003) (s 1004)) 31):=by rw [ea,au];exact ib zb
  go_simp
  refine D.out (s) _ _ (by simp [aC,eb,e7,ea,au] <;> rfl) (kX (BK m.out.1 ac) (kC (kA (kX (fun h=>⟨((jC m.out).2.2.1 h).1,dI ((jC m.out).2.2.1 h).2.1 zb (by decide),dI ((jC m.out).2.2.1 h).2.2 zb (by decide)⟩) (kC (kX (fun _=>⟨bb,eb,ac,zn⟩) (kX (fun h=>iI.far ((jC (jD m.out)).1 h) zb (by decide)) id)))))) m.out)
 ·have e8:=((jD m.out).2.1 (A 8 rfl))
  have e5:=((jC m.out).2.2.1 (A 5 rfl))
  have X1:=e5.2.1
  have X2:=e5.2.2
  clear e5
  obtain ⟨bb,eb,ac,zb⟩:=((jC (jD m.out)).1 (A 11 rfl))
  rw [hl] at zb
  dsimp only [cond] at zb
  have zn:hp (dF u bb (aB S.2.1)) bb=some (.cells (aB S.2.1) 49):=by exact ib zb
  go_simp
  refine D.out (s) _ _ (by simp [aC,eb,e8] <;> rfl) (kX (BK m.out.1 ac) (kC (kA (kX (fun h=>⟨((jC m.out).2.2.1 h).1,dI ((jC m.out).2.2.1 h).2.1 zb (by decide),dI ((jC m.out).2.2.1 h).2.2 zb (by decide)⟩) (kC (kX (fun h=>iI.far ((jD m.out).2.2.2.1 h) zb (by decide)) (kX (fun _=>⟨bb,eb,ac,zn⟩) id)))))) m.out)
 ·have G:=((jD m.out).2.2.1 (A 9 rfl))
  go_simp
  refine D.out (upd s 8 (.bool S.2.2)) _ _ (by simp [aC,G] <;> rfl) (kD (kC (kA (fun _=>fun _=>rfl))) m.out)
end
section
open Go.RowKit
def jc (i:Nat):Wo→Wo × Bool:=fun y=>iw y (i:Int)
theorem xu {x:Wo} {who:Int} (h:yB x):yB (iw x who).1:=by
 obtain ⟨h1,q,m⟩:=h
 unfold iw lM
 split
 ·exact ⟨h1,q,m⟩
 ·rename_i r
  split
  ·exact ⟨h1,q,m⟩
  ·rename_i c2
   simp at r
   refine ⟨by show 0≤x.now+1;omega,by show x.now+1≤20000;omega,?_⟩
   show (if (iO x.ch (aL x who)).2.1.pos == 0 then x.deals ++ [_] else x.deals).length≤1000
   split
   ·rename_i c3
    simp at c2 c3
    have:=c2 c3
    simp
    omega
   ·exact m
theorem zM {x:Wo} (h:bC x=true):yB x:=by
 have:=tT h
 unfold bC ik at h
 simp at h
 exact ⟨this.1,this.2,h.1.2.2.2.1⟩
theorem zQ (f:Wo→Wo × Bool) (x:Wo):iV f 0 x=(x,0):=rfl
theorem zR {f:Wo→Wo × Bool} {n:Nat} {x:Wo} (h:(f x).2=false):iV f (n+1) x=((f x).1,0):=by simp [iV,h]
theorem Iy {f:Wo→Wo × Bool} {n:Nat} {x:Wo} (h:(f x).2=true):iV f (n+1) x=((iV f n (f x).1).1,(iV f n (f x).1).2+1):=by simp [iV,h]
theorem kS.cells {w:World} {lo B:Nat} {x:Wo} (h:kS w lo B x):∃ (a b d e:Option Addr) (p q r s:Nat),hp w B=some (.cells #[x.ch.cap,x.ch.sent,x.ch.got,x.ch.fin,.slice a x.ch.cells p,.slice b x.ch.words q,.slice d x.hands r,.slice e x.deals s,x.now] 35)∧dO w lo (.slice a x.ch.cells p) (.slice b x.ch.words q) (.slice d x.hands r) (.slice e x.deals s) x∧lo≤B:=h
theorem BA (x:Wo) (most:Int) (i k:Nat) (a b d e:Option Addr) (p q r s:Nat) (w:World) (h:ic w w x a b d e) (z:jl x a b d e p q r s) (m:jk x) (hb:yB x) (hk:k<w.heap.size) (hc:w.cell? ⟨k,0,none⟩=some (.int .i64 i))
  (HF:∀ (y:Wo) (lo B:Nat) (W:World),yB y→y.hands.length=x.hands.length→W.cell? ⟨k,0,none⟩=some (.int .i64 i)→kS W lo B y→Calls prog 54 #[.pointer (some ⟨B,0,none⟩),.pointer (some ⟨k,0,none⟩)] W fun r w'=>(r=.returned (.bool (jc i y).2)∧kS w' lo B (jc i y).1)∧Below lo W w')
  (HN:∀ y:Wo,yB y→yB (jc i y).1∧(jc i y).1.hands.length=y.hands.length) :
  Calls prog 53 #[kZ x a b d e p q r s,.int .i64 most,.func (.func 54) #[] #[.pointer (some ⟨k,0,none⟩)]] w fun r w'=>fE w w' (if dA most 0 20000 then (iV (jc i) most.toNat x).1 else x) (.int .i64 (if dA most 0 20000 then ((iV (jc i) most.toNat x).2:Int) else -1)) r:=by
 have HW:=aA h
 have HZ:=aA z
 have Ra:=aA HF
 have Rb:=aA HN
 clear h z HF HN
 obtain ⟨A,L⟩:∃ A,Hid (A=if dA most 0 20000 then (iV (jc i) most.toNat x).1 else x):=⟨_,rfl⟩
 obtain ⟨Yn,K⟩:∃ Yn,Hid (Yn=if dA most 0 20000 then ((iV (jc i) most.toNat x).2:Int) else -1):=⟨_,rfl⟩
 rw [← L.out,← K.out]
 go_enter func53,ntmps53
 go_wp2_with fail
 refine aK w zB fun bb=>?_
 refine (oo x a b d e p q r s _ (HW.out.at bb) HZ.out m).mono ?_
 rintro _ w3 ⟨⟨B,v1,v2,v3,v4,rfl,I,Z,HO⟩,F⟩
 have J:Below w w w3:=bT bb F
 have a9:=F.size;(try (simp at a9));have Y:=hQ F (b:=w);(first|(simp [go_sem,O,a1] at Y)|(simp [go_sem] at Y));(try clear ac a3);(try clear O);have O:=Y;clear Y;(try clear a1);obtain ⟨ac,a3,a1⟩:=bO O;have Y:=hQ F (b:=w+1);(first|(simp [go_sem,u,D] at Y)|(simp [go_sem] at Y));(try clear G E);(try clear u);have u:=Y;clear Y;(try clear D);obtain ⟨G,E,D⟩:=bO u
 obtain ⟨lo,ae⟩:∃ lo,lo=w.heap.size+1+1:=⟨_,rfl⟩
 simp at I HO
 rw [show w.heap.size+1+1=lo from ae.symm] at I HO
 have af:lo≤w3.heap.size:=by omega
 have R:kS w3 lo B x:=kS.of Z HO I
 clear bb F Z HO
 by_cases hm:dA most 0 20000=true
 case neg =>
  have a8:dA most 0 20000=false:=by simpa using hm
  obtain rfl:A=x:=by rw [L.out,a8];rfl
  obtain rfl:Yn=-1:=by rw [K.out,a8];rfl
  clear L K
  obtain ⟨ya,yb,yd,ye,yp,yq,yr,ys,N,⟨k1,k2,k3,k4⟩,_⟩:=kS.cells R
  obtain ⟨ab,a2,aa⟩:=bO N
  have n1:w.heap.size+1≠B:=by omega
  have n2:B≠w.heap.size+1:=by omega
  have n3:w.heap.size+1<B:=by omega
  go_wp2_with (go_at_call 45;refine (eO _ _ _).mono ?_;rintro _ _ ⟨rfl,rfl⟩)
  refine bodyPost_ret (v:=.tuple #[.agg #[A.ch.cap,A.ch.sent,A.ch.got,A.ch.fin,.slice ya A.ch.cells yp,.slice yb A.ch.words yq,.slice yd A.hands yr,.slice ye A.deals ys,A.now],.int .i64 (-1)]) (by simp [results,results53,go_sem, *]) rfl ⟨⟨_,_,_,_,rfl,aH (lo:=lo) (zW k1 u) tO,aH (lo:=lo) (zW k2 u) tO,aH (lo:=lo) (zW k3 u) tO,aH (lo:=lo) (zW k4 u) tO⟩,by exact zB⟩
 have a7:0≤most∧most≤20000:=by simpa [dA] using hm
 obtain ⟨M,rfl⟩:∃ M:Nat,most=(M:Int):=⟨most.toNat,by omega⟩
 have hR:Hid (A=(iV (jc i) M x).1∧Yn=(iV (jc i) M x).2):=⟨by rw [L.out,hm];simp,by rw [K.out,hm];simp⟩
 clear L K
 go_wp2_with (go_at_call 45;refine (eO _ _ _).mono ?_;rintro _ _ ⟨rfl,rfl⟩)
 go_loopw [9] (fun t wr=>∃ (j:Nat) (y:Wo),j≤M∧t=.int .i64 j∧yB y∧y.hands.length=x.hands.length∧Hid (A=(iV (jc i) (M - j) y).1∧Yn=((iV (jc i) (M - j) y).2:Int)+j)∧kS wr lo B y∧Below lo w3 wr) (fun t _=>M - (intOf t).toNat)
 case atStart=>exact ⟨0,x,by omega,rfl,hb,rfl,⟨by simpa using hR.out.1,by simpa using hR.out.2⟩,R,Below.refl _ _⟩
 case round =>
  clear R hR
  obtain ⟨j,y,hj,rfl,a0,X,hY,R,H⟩:=hrel
  have ah:=H.size
  replace O:=(H.block w tO).trans O
  replace u:=(H.block (w+1) tO).trans u
  clear ac a3 a1 G E D
  obtain ⟨G,E,D⟩:=bO u
  by_cases a6:j<M
  ·have hd:decide ((j:Int)<(M:Int))=true:=by simp;omega
   go_wp2_with fail
   refine (Ra.out y lo B _ a0 X ((H.cell (p:=⟨k,0,none⟩) (by simp;omega)).trans ((J.cell (p:=⟨k,0,none⟩) hk).trans hc)) R).mono ?_
   rintro _ w6 ⟨⟨rfl,T⟩,V⟩
   have ag:=V.size
   obtain ⟨a4,a5⟩:=Rb.out y a0
   cases hf:(jc i y).2 with
   | true =>
    go_wp2
    go_roundw
    case rel=>exact ⟨j+1,(jc i y).1,by omega,by go_num,a4,a5.trans X,by rw [show M - j=(M - (j+1))+1 by omega] at hY;have U:=hY.out;rw [Iy hf] at U;exact ⟨U.1,by rw [U.2];push_cast;omega⟩,T,H.trans V⟩
    case measure=>simp [intOf];omega
   | false =>
    have U:=hY.out
    rw [show M - j=(M - (j+1))+1 by omega,zR hf] at U
    obtain ⟨h5,h3⟩:=U
    have h6:(jc i y).1=A:=h5.symm
    rw [h6] at T
    have h4:Yn=(j:Int):=by rw [h3];simp
    clear h3
    subst h4
    clear hY R
    have R:=T
    clear T
    obtain ⟨ya,yb,yd,ye,yp,yq,yr,ys,N,⟨k1,k2,k3,k4⟩,_⟩:=kS.cells R
    obtain ⟨ab,a2,aa⟩:=bO N
    replace u:=(V.block (w+1) tO).trans u
    clear G E D
    obtain ⟨G,E,D⟩:=bO u
    have ad:Below w w w6:=J.trans (((H.trans V)).mono tO)
    have n1:w.heap.size+1≠B:=by omega
    have n2:B≠w.heap.size+1:=by omega
    have n3:w.heap.size+1<B:=by omega
    clear a5 X a4 a0 hm a7 hj a6 h5 h6
    go_wp2
    refine bodyPost_ret (v:=.tuple #[.agg #[A.ch.cap,A.ch.sent,A.ch.got,A.ch.fin,.slice ya A.ch.cells yp,.slice yb A.ch.words yq,.slice yd A.hands yr,.slice ye A.deals ys,A.now],.int .i64 j]) (by simp [results,results53,go_sem, *]) rfl ⟨⟨_,_,_,_,rfl,aH (lo:=lo) (zW k1 u) tO,aH (lo:=lo) (zW k2 u) tO,aH (lo:=lo) (zW k3 u) tO,aH (lo:=lo) (zW k4 u) tO⟩,by exact zB⟩
  ·have:j=M:=by omega
   subst this
   have hd:decide ((j:Int)<(j:Int))=false:=by simp
   have U:=hY.out
   simp [zQ] at U
   obtain ⟨rfl,rfl⟩:=U
   clear hY
   obtain ⟨ya,yb,yd,ye,yp,yq,yr,ys,N,⟨k1,k2,k3,k4⟩,_⟩:=kS.cells R
   obtain ⟨ab,a2,aa⟩:=bO N
   have ad:Below w w wr:=J.trans (H.mono tO)
   have n1:w.heap.size+1≠B:=by omega
   have n2:B≠w.heap.size+1:=by omega
   have n3:w.heap.size+1<B:=by omega
   clear X hj a6 hm a7
   go_wp2
   refine bodyPost_ret (v:=.tuple #[.agg #[A.ch.cap,A.ch.sent,A.ch.got,A.ch.fin,.slice ya A.ch.cells yp,.slice yb A.ch.words yq,.slice yd A.hands yr,.slice ye A.deals ys,A.now],.int .i64 j]) (by simp [results,results53,go_sem, *]) rfl ⟨⟨_,_,_,_,rfl,aH (lo:=lo) (zW k1 u) tO,aH (lo:=lo) (zW k2 u) tO,aH (lo:=lo) (zW k3 u) tO,aH (lo:=lo) (zW k4 u) tO⟩,by exact zB⟩
end
section
open Go.RowKit
theorem Nf (k:Nat):∀ (i:Nat) (x:Wo) (c:Bool),yB x→yB (xG k i x c).1∧(xG k i x c).1.hands.length=x.hands.length:=by
 induction k with
 | zero=>exact fun i x c h=>⟨h,rfl⟩
 | succ k ih =>
  intro i x c h
  unfold xG
  obtain ⟨h1,m⟩:=ih (i+1) (iw x (i:Int)).1 ((iw x (i:Int)).2 || c) (xu h)
  exact ⟨h1,m.trans (tH x i)⟩
theorem Ng {x:Wo} (h:yB x):yB (mi x).1∧(mi x).1.hands.length=x.hands.length:=Nf _ _ _ _ h
theorem GH (x:Wo) (B lo:Nat) (w:World) (h:kS w lo B x) (T:yB x) (Z:x.hands.length≤1099511627776) :
  Calls prog 76 #[.pointer (some ⟨B,0,none⟩)] w fun r w'=>(r=.returned (.bool (mi x).2)∧kS w' lo B (mi x).1)∧Below lo w w':=by
 obtain ⟨Y,q⟩:∃ Y,Hid (Y=mi x):=⟨_,rfl⟩
 rw [← q.out]
 have D:=h
 obtain ⟨a,b,d,e,p1,p2,p3,p4,J,_,U⟩:=kS.cells h
 obtain ⟨N,L,M⟩:=bO J
 have R:lo≤w.heap.size:=by omega
 clear h
 go_enter func76,ntmps76
 go_wp2_with fail
 go_loopw [3,10] (fun v t wr=>∃ (j:Nat) (y:Wo) (c:Bool),j≤x.hands.length∧v=.bool c∧t=.int .i64 j∧yB y∧y.hands.length=x.hands.length∧Hid (Y=xG (x.hands.length - j) j y c)∧kS wr lo B y∧Below lo w wr) (fun _ t _=>x.hands.length - (intOf t).toNat)
 case atStart=>exact ⟨0,x,false,by omega,rfl,rfl,T,rfl,by rw [q.out];rfl,D,Below.refl _ _⟩
 case round =>
  clear D q N L M J
  obtain ⟨j,y,c,X,rfl,rfl,H,A,q,D,z⟩:=hrel
  by_cases V:j<x.hands.length
  ·have m:=q.out
   rw [show x.hands.length - j=(x.hands.length - (j+1))+1 by omega] at m
   unfold xG at m
   have K:=aA m
   clear m q
   go_wp2_with fail
   refine (Ed y j B lo _ D H tO).mono ?_
   rintro _ w6 ⟨⟨rfl,E⟩,F⟩
   have I:=aA ((tH y j).trans A)
   have G:=xu (who:=(j:Int)) H
   cases O:(iw y (j:Int)).2 with
   | true =>
    have u:Hid (Y=xG (x.hands.length - (j+1)) (j+1) (iw y (j:Int)).1 true):=by have m:=K.out;rw [O] at m;exact m
    clear K A
    go_wp2
    go_roundw
    case rel=>exact ⟨j+1,(iw y (j:Int)).1,true,by omega,rfl,by go_num,G,I.out,u,E,z.trans F⟩
    case measure=>simp [intOf];omega
   | false =>
    have u:Hid (Y=xG (x.hands.length - (j+1)) (j+1) (iw y (j:Int)).1 c):=by have m:=K.out;rw [O] at m;exact m
    clear K A
    go_wp2
    go_roundw
    case rel=>exact ⟨j+1,(iw y (j:Int)).1,c,by omega,rfl,by go_num,G,I.out,u,E,z.trans F⟩
    case measure=>simp [intOf];omega
  ·have:j=x.hands.length:=by omega
   subst this
   have m:=q.out
   simp only [Nat.sub_self,xG] at m
   obtain rfl:=m
   clear q
   go_wp2
   go_ret
   exact ⟨⟨rfl,D⟩,z⟩
end
end Go.Proofs.YtffhjmepfojhnaaGreat
