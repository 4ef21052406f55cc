/-
  The program's touch of growing, every case, and its step, on hands and channels that are kept whole; lists lie in memory.
-/
import Derived.Test.YtffhjmepfojhnaaGreatR22
import Derived.Test.YtffhjmepfojhnaaGreatR20
import Derived.Laws.EntriesVeiled
import Derived.Test.YtffhjmepfojhnaaGreatR15
import Derived.Test.YtffhjmepfojhnaaGreatR09
import Derived.Deep.RegionHeld3
import Derived.WalkLawsBesides
import Derived.Test.YtffhjmepfojhnaaGreatR04
import Derived.Test.YtffhjmepfojhnaaGreatR01
import Derived.Deep.DeepCutAuto
import Derived.BigRegion
import Derived.Recover
import Derived.Test.YtffhjmepfojhnaaGreatR14
import Derived.Test.YtffhjmepfojhnaaGreatR21
set_option maxRecDepth 100000
set_option maxHeartbeats 8000000
set_option linter.unusedSimpArgs false
set_option linter.unusedVariables false
namespace Go.Proofs.YtffhjmepfojhnaaGreat
section
open Go.RowKit
attribute [local simp] aC
attribute [local go_sem ↓] aB aU aL bB aM bC aG aN au aF
theorem eP {c:Ch} {h:Ha}:kP (c,h,true)=done c h:=rfl
theorem mD:kP nothing=nothing:=by simp [kP,nothing,aK,fq,Ch.zero]
theorem GQ {c:Ch} {w word:Int} (h:fo c w word=false):dN c w word=c:=by simp [dN,h]
theorem Kj {h:Ha} (hh:bW h=true):0≤h.nxt∧h.nxt≤2:=by
 simp only [bW,Fe,Bool.and_eq_true,kY] at hh
 omega
theorem DZ {h:Ha} (hh:bW h=true):0≤h.grow∧h.grow≤39:=by
 simp only [bW,wR,Bool.and_eq_true,kY] at hh
 omega
theorem Kk {h:Ha} (hh:bW h=true):0≤h.pos∧h.pos≤25:=by
 simp only [bW,qo,Bool.and_eq_true,kY] at hh
 omega
theorem GU {c:Ch} (e:aK c=true):0≤c.fin∧c.fin≤40:=by
 simp only [aK,fq,Bool.and_eq_true,kY] at e
 omega
theorem vZ (c:Ch) (h:Ha) (hc:aK c=true) (hh:bW h=true):∃ x:St,dn c h=kP x∧∀ (v1 v2:Value) (lo:Nat) (W:World),ag W lo v1 c.cells→ai W lo v2 c.words→lo≤W.heap.size→Calls Tryz.prog 268 #[.agg (af c v1 v2),.agg (aa h)] W fun r w'=>cz W w' lo v1 v2 x r:=by
 cases hk:(h.code != 2) with
 | true =>
  have hk2:¬ h.code=2:=by simpa using hk
  have hno:bf c h 16 22 2=false:=by simp [bf,hk2]
  exact ⟨nothing,by rw [mD];simp [dn,bH,hno],fun v1 v2 lo W o1 o2 _=>yX c h v1 v2 lo W o1 o2 hk⟩
 | false =>
  have hk2:h.code=2:=by simpa using hk
  have hnx:=Kj hh
  obtain ⟨hc0,RJ⟩:=DZ hh
  have hc1:h.grow<c.cells.length:=by have:=(jh hc).1;omega
  by_cases hr:16≤h.pos∧h.pos≤22
  ·have hok:bf c h 16 22 2=true:=by
    have:dm h.pos 16 22=true:=by simp [dm];omega
    simp [bf,hc,hh,this,hk2]
   have hcall:dO h.code h.elem=true:=by
    have:=hh
    simp only [bW,qo,Bool.and_eq_true,kY] at this
    have h0:¬ h.pos=0:=by omega
    simp [h0] at this
    exact this.1.2
   have hps:h.pos=16∨h.pos=17∨h.pos=18∨h.pos=19∨h.pos=20∨h.pos=21∨h.pos=22:=by omega
   rcases hps with hp|hp|hp|hp|hp|hp|hp
   ·have hq:(h.pos == 16)=true:=by simpa using hp
    cases hg:(c.cap == 0) with
    | true =>
     refine ⟨(c,dC h,true),?_,fun v1 v2 lo W o1 o2 _=>vR c h v1 v2 lo W o1 o2 hg hcall hnx hq hk⟩
     simp only [dn,bH,hok,hp,gF,hg]
     simp [eP]
    | false =>
     cases hf:(c.fin == 40) with
     | true =>
      refine ⟨(c,dC h,true),?_,fun v1 v2 lo W o1 o2 _=>vS c h v1 v2 lo W o1 o2 hg hf hcall hnx hq hk⟩
      simp only [dn,bH,hok,hp,gF,hg,hf]
      simp [eP]
     | false =>
      refine ⟨({ c with fin:=c.fin+1 },{ h with grow:=c.fin,pos:=17 },true),?_,fun v1 v2 lo W o1 o2 _=>vT c h v1 v2 lo W o1 o2 (GU hc) hg hf hq hk⟩
      simp only [dn,bH,hok,hp,gF,hg,hf]
      simp [eP]
   ·have hq:(h.pos == 17)=true:=by simpa using hp
    by_cases hg:c.sent≤h.grow
    ·refine ⟨(c,dC h,true),?_,fun v1 v2 lo W o1 o2 _=>vU c h v1 v2 lo W o1 o2 hg hcall hnx hq hk⟩
     simp [dn,bH,hok,hp,hg,eP]
    ·refine ⟨(c,{ h with pos:=18 },true),?_,fun v1 v2 lo W o1 o2 _=>vV c h v1 v2 lo W o1 o2 hg hq hk⟩
     simp [dn,bH,hok,hp,hg,eP]
   ·have hq:(h.pos == 18)=true:=by simpa using hp
    have em:dn c h=lF c h:=by simp [dn,bH,hok,hp]
    by_cases n5:(cellAt c h.grow).s=5
    ·refine ⟨(c,h,false),?_,fun v1 v2 lo W o1 o2 _=>uI c h v1 v2 lo W o1 o2 hc0 hc1 n5 hq hk⟩
     rw [em]
     simp [lF,n5,kP,hc,hh]
    have ed:dn c h=done c (kR c h):=by rw [em];simp [lF,n5]
    by_cases n0:(cellAt c h.grow).s=0
    ·refine ⟨(c,{ bM h (cellAt c h.grow) with pos:=19 },true),?_,fun v1 v2 lo W o1 o2 _=>uJ c h v1 v2 lo W o1 o2 hc0 hc1 n0 hq hk⟩
     rw [ed,eP]
     simp [kR,n0]
    by_cases n3:(cellAt c h.grow).s=3
    ·refine ⟨(c,{ bM h (cellAt c h.grow) with pos:=19 },true),?_,fun v1 v2 lo W o1 o2 _=>uK c h v1 v2 lo W o1 o2 hc0 hc1 n3 hq hk⟩
     rw [ed,eP]
     simp [kR,n3]
    by_cases n9:(cellAt c h.grow).s=9
    ·refine ⟨(c,{ bM h (cellAt c h.grow) with pos:=16 },true),?_,fun v1 v2 lo W o1 o2 _=>uL c h v1 v2 lo W o1 o2 hc0 hc1 n9 hq hk⟩
     rw [ed,eP]
     simp [kR,n9]
    ·refine ⟨(c,dC (bM h (cellAt c h.grow)),true),?_,fun v1 v2 lo W o1 o2 _=>uM c h v1 v2 lo W o1 o2 hc0 hc1 (by simpa using n5) (by simpa using n0) (by simpa using n3) (by simpa using n9) hcall hnx hq hk⟩
     rw [ed,eP]
     simp [kR,n0,n3,n9]
   ·have hq:(h.pos == 19)=true:=by simpa using hp
    have ep:dn c h=mo c h:=by simp [dn,hok,hp]
    cases hs:(h.seen != 0) with
    | true =>
     refine ⟨mQ c h,?_,fun v1 v2 lo W o1 o2 _=>vW c h v1 v2 lo W o1 o2 hc0 hc1 hs hq hk⟩
     have h0:¬ h.seen=0:=by simpa using hs
     rw [ep]
     by_cases h3:h.seen=3
     ·simp only [mo,mQ,h3,beq_self_eq_true,if_true,QL,kS]
      cases ht:bn c h.grow 3 6 (cellAt c h.grow).t with
      | true=>simp [eP]
      | false=>rw [kM ht];simp [eP]
     ·simp [mo,gz,mQ,h3,h0,mD]
    | false =>
     have h0:h.seen=0:=by simpa using hs
     have e8:dn c h=kS c h 1 0 (dC h):=by rw [ep];simp [mo,gz,h0]
     cases ht:bn c h.grow 0 1 0 with
     | true =>
      refine ⟨(aY c h.grow 0 1 0,dC h,true),?_,fun v1 v2 lo W o1 o2 _=>vX c h v1 v2 lo W o1 o2 hc0 hc1 hs hcall hnx ht hq hk⟩
      rw [e8,eP]
      simp [kS,h0,ht]
     | false =>
      refine ⟨(aY c h.grow 0 1 0,{ h with pos:=18 },true),?_,fun v1 v2 lo W o1 o2 _=>uN c h v1 v2 lo W o1 o2 hc0 hc1 hs ht hq hk⟩
      rw [e8,eP]
      simp [kS,h0,ht]
   ·have hq:(h.pos == 20)=true:=by simpa using hp
    refine ⟨zU c { h with pos:=21 } { h with pos:=22 },?_,fun v1 v2 lo W o1 o2 hl=>yT c h v1 v2 lo W o1 o2 hc hl hk hq⟩
    unfold zU
    cases ht:fo c h.wait 1 with
    | true=>simp [dn,bH,hok,hp,qY,ht,eP]
    | false=>simp [dn,bH,hok,hp,qY,ht,eP,GQ ht]
   ·have hq:(h.pos == 21)=true:=by simpa using hp
    refine ⟨(bP c h.grow 2,dC h,true),?_,fun v1 v2 lo W o1 o2 _=>yU c h v1 v2 lo W o1 o2 hc0 hc1 hcall hnx hq hk⟩
    simp [dn,bH,hok,hp,eP]
   ·have hq:(h.pos == 22)=true:=by simpa using hp
    refine ⟨(bP c h.grow 9,{ h with pos:=16 },true),?_,fun v1 v2 lo W o1 o2 _=>yV c h v1 v2 lo W o1 o2 hc0 hc1 hq hk⟩
    simp [dn,bH,hok,hp,eP]
  ·have hno:bf c h 16 22 2=false:=by
    have:dm h.pos 16 22=false:=by simp [dm];omega
    simp [bf,this]
   have VJ:=Kk hh
   have far:∀ k:Int,16≤k→k≤22→(h.pos == k)=false:=fun k h1 h2=>by simp;omega
   exact ⟨nothing,by rw [mD];simp [dn,bH,hno],fun v1 v2 lo W o1 o2 _=>vY c h v1 v2 lo W o1 o2 hk (far 16 tO tO) (far 17 tO tO) (far 18 tO tO) (far 19 tO tO) (far 20 tO tO) (far 21 tO tO) (far 22 tO tO) (by simp;omega)⟩
theorem pz (c:Ch) (h:Ha) (a b:Option Addr) (p q:Nat) (w:World) (h1:eY w w.heap.size a c.cells) (z1:a=none→p=0) (h2:eQ w w.heap.size b c.words) (z2:b=none→q=0) (l1:c.cells.length≤maxLen) (l2:c.words.length≤maxLen) :
  Calls Tryz.prog 267 #[.agg (af c (.slice a c.cells.length p) (.slice b c.words.length q)),.agg (aa h)] w fun r w'=>bV w w' (dn c h) r:=by
 have K:∀ (w:World),eY w w.heap.size a c.cells→(a=none→p=0)→eQ w w.heap.size b c.words→(b=none→q=0)→Calls Tryz.prog 236 #[.func (.func 268) #[] #[],.agg (af c (.slice a c.cells.length p) (.slice b c.words.length q)),.agg (aa h)] w fun r w'=>bV w w' (dn c h) r:=by
  intro w h1 z1 h2 z2
  cases hc:aK c with
  | false =>
   rw [show dn c h=nothing by simp [dn,bH,bf,hc]]
   exact mh _ c h a b p q w h1 z1 h2 z2 l1 l2 hc
  | true =>
   cases hh:bW h with
   | false =>
    rw [show dn c h=nothing by simp [dn,bH,bf,hh]]
    exact mi _ c h a b p q w h1 z1 h2 z2 l1 l2 hc hh
   | true =>
    obtain ⟨x,e,HT⟩:=vZ c h hc hh
    rw [e]
    exact mg _ x c h a b p q w h1 z1 h2 z2 hc hh (fun args w=>by simp [go_sem]) HT
 generalize dn c h=x at *
 have T:=Lib.hid K
 have H1:=Lib.hid h1
 have H2:=Lib.hid h2
 have Z1:=Lib.hid z1
 have Z2:=Lib.hid z2
 clear h1 h2 z1 z2 K
 have d1:∀ j,(Value.slice none 0 0).ownBlock=some j→w.heap.size+1+1+1+1≤j:=fun j hj=>by cases hj
 have d2:=d1
 go_enter Tryz.func267,Tryz.ntmps267
 go_wp2_with fail;refine ax w zB fun bb=>?_;refine (T.out _ (aT H1 bb) Z1.out (aT H2 bb) Z2.out).mono ?_;rintro _ w9 ⟨⟨y1,y2,rfl,aV,aX,dL,dI⟩,eG⟩;obtain ⟨sI,jc,zz⟩:=dZ bb eG (b:=w.heap.size);(try simp at jc);(try simp [go_sem] at zz);replace bX:=dF zz;clear zz eG bb
 replace aV:ag w9 w.heap.size y1 x.1.cells:=av aV (by simp;omega)
 replace aX:ai w9 w.heap.size y2 x.1.words:=av aX (by simp;omega)
 obtain ⟨⟨aI,aJ⟩,dP,dQ⟩:=lL (w:=w) (w.heap.size+1+1+1+1) dL dI d1 d2;obtain ⟨ya,yp,rfl,_⟩:=aV.seg;obtain ⟨yb,yq,rfl,_⟩:=aX.seg
 go_wp2
 refine rE Tryz.results267 rfl (az x.1 (.slice ya x.1.cells.length yp) (.slice yb x.1.words.length yq) tY) rfl (aj x.2.1 tY) ⟨⟨_,_,rfl,?_,?_,dP,dQ⟩,by exact zB⟩
 ·exact zP aV aV aI
 ·exact zP aX aX aJ
end
section
open Go.RowKit
attribute [local simp] aC
attribute [local go_sem ↓] aB aU aL bB aM bC aG aN au aF
def jQ (h:Ha) (x:Int):Ha:=if x == 0 then h else if x == 2 then { h with pos:=25 } else if h.code == 1 then aP 1 0 else { h with pos:=24 }
theorem xK (c:Ch) (v:Int) (v1 v2:Value) (lo:Nat) (w:World) (h1:ag w lo v1 c.cells) (h2:ai w lo v2 c.words) (hc:aK c=true) :
  Calls Tryz.prog 280 #[.agg (af c v1 v2),.int .i64 v] w fun r w'=>r=.returned (.int .i64 (gL c v))∧Below w.heap.size w w':=by
 obtain ⟨n1,n2⟩:=jh hc
 obtain ⟨a,p,rfl,g1⟩:=h1.seg
 obtain ⟨b,q,rfl,g2⟩:=h2.seg
 exact Dk c v a b p q w g1 g2 (by unfold maxLen;omega) (by unfold maxLen;omega)
theorem kN (c:Ch) (h:Ha) (v1 v2:Value) (lo:Nat) (w:World) (h1:ag w lo v1 c.cells) (h2:ai w lo v2 c.words) (hc:aK c=true) (x:Int) (hx:gL c h.mine=x) (hp:¬ x<0) :
  Calls Tryz.prog 276 #[.agg (af c v1 v2),.agg (aa h)] w fun r w'=>r=.returned (.int .i64 x)∧Below w.heap.size w w':=by
 have WO:=Lib.hid fun W a b=>xK c h.mine v1 v2 lo W a b hc
 rw [hx] at WO
 clear hx
 obtain ⟨a1,q1,a2,q2,rfl,rfl,O1,O2,b1,b2⟩:=ql h1 h2
 clear h1 h2
 have o1:=O1.out
 have o2:=O2.out
 go_enter Tryz.func276,Tryz.ntmps276
 go_wp2_with fail;refine ax w zB fun bb=>?_;refine (WO.out _ (zO o1 o1) (zO o2 o2)).mono ?_;rintro _ w1 ⟨rfl,ah⟩;obtain ⟨aW,ay,zz⟩:=CK bb ah (b:=w.heap.size);(try simp at ay);(try simp [go_sem] at zz);replace bX:=zS zz;clear zz ah bb
 go_wp2
 go_ret
 exact ⟨rfl,by exact zB⟩
theorem Ea (c:Ch) (h:Ha) (v1 v2:Value) (lo:Nat) (w:World) (h1:ag w lo v1 c.cells) (h2:ai w lo v2 c.words) (hc:aK c=true) (hx:gL c h.mine=-1) :
  Calls Tryz.prog 276 #[.agg (af c v1 v2),.agg (aa h)] w fun e W'=>∃ T s,e=.panicked [{ v:=.iface T s,recovered:=false }]∧Below w.heap.size w W':=by
 have WO:=Lib.hid fun W a b=>xK c h.mine v1 v2 lo W a b hc
 rw [hx] at WO
 clear hx
 obtain ⟨a1,q1,a2,q2,rfl,rfl,O1,O2,b1,b2⟩:=ql h1 h2
 clear h1 h2
 have o1:=O1.out
 have o2:=O2.out
 go_enter Tryz.func276,Tryz.ntmps276
 go_wp2_with fail;refine ax w zB fun bb=>?_;refine (WO.out _ (zO o1 o1) (zO o2 o2)).mono ?_;rintro _ w1 ⟨rfl,ah⟩;obtain ⟨aW,ay,zz⟩:=CK bb ah (b:=w.heap.size);(try simp at ay);(try simp [go_sem] at zz);replace bX:=zS zz;clear zz ah bb
 go_wp2
 exact ⟨rfl,_,_,rfl,by exact zB⟩
theorem Eb (k e:Int) (w:World):Calls Tryz.prog 279 #[.agg #[.int .i64 k,.int .i64 e]] w fun r w'=>r=.returned (.int .i64 (if k == 1 then 9 else 10))∧Below w.heap.size w w':=by
 go_enter Tryz.func279,Tryz.ntmps279
 go_wp2
 all_goals go_ret
 all_goals exact ⟨mX (by simp_all),by exact zB⟩
theorem MQ (h:Ha) (x:Int) (w:World) (hx:x=0):Calls Tryz.prog 277 #[.agg (aa h),.int .i64 x] w fun r w'=>r=.returned (.agg (aa h))∧Below w.heap.size w w':=by
 go_enter Tryz.func277,Tryz.ntmps277
 subst hx
 go_wp2
 exact bodyPost_ret (ic Tryz.results277 rfl (aj h tZ)) rfl ⟨rfl,by exact zB⟩
theorem MR (h:Ha) (x:Int) (w:World) (hx:x=2):Calls Tryz.prog 277 #[.agg (aa h),.int .i64 x] w fun r w'=>r=.returned (.agg (aa { h with pos:=25 }))∧Below w.heap.size w w':=by
 go_enter Tryz.func277,Tryz.ntmps277
 subst hx
 go_wp2_with fail;refine ax w zB fun bb=>?_;refine (cZ _ _ _).mono ?_;rintro _ w1 ⟨rfl,ah⟩;obtain ⟨aW,ay,zz⟩:=CK bb ah (b:=w.heap.size);(try simp at ay);(try simp [go_sem] at zz);replace bX:=zS zz;clear zz ah bb
 go_wp2
 exact bodyPost_ret (ic Tryz.results277 rfl (aj { h with pos:=25 } tZ)) rfl ⟨rfl,by exact zB⟩
theorem MS (h:Ha) (x:Int) (w:World) (h0:(x == 0)=false) (h2:(x == 2)=false) (hk:(h.code == 1)=true):Calls Tryz.prog 277 #[.agg (aa h),.int .i64 x] w fun r w'=>r=.returned (.agg (aa (aP 1 0)))∧Below w.heap.size w w':=by
 go_enter Tryz.func277,Tryz.ntmps277
 go_wp2_with fail;refine ax w zB fun bb=>?_;refine (fT _ _ _).mono ?_;rintro _ w1 ⟨rfl,ah⟩;obtain ⟨aW,ay,zz⟩:=CK bb ah (b:=w.heap.size);(try simp at ay);(try simp [go_sem] at zz);replace bX:=zS zz;clear zz ah bb
 go_wp2
 exact bodyPost_ret (ic Tryz.results277 rfl (aj (aP 1 0) tZ)) rfl ⟨rfl,by exact zB⟩
theorem MU (h:Ha) (x:Int) (w:World) (h0:(x == 0)=false) (h2:(x == 2)=false) (hk:(h.code == 1)=false):Calls Tryz.prog 277 #[.agg (aa h),.int .i64 x] w fun r w'=>r=.returned (.agg (aa { h with pos:=24 }))∧Below w.heap.size w w':=by
 go_enter Tryz.func277,Tryz.ntmps277
 go_wp2_with fail;refine ax w zB fun bb=>?_;refine (cZ _ _ _).mono ?_;rintro _ w1 ⟨rfl,ah⟩;obtain ⟨aW,ay,zz⟩:=CK bb ah (b:=w.heap.size);(try simp at ay);(try simp [go_sem] at zz);replace bX:=zS zz;clear zz ah bb
 go_wp2
 exact bodyPost_ret (ic Tryz.results277 rfl (aj { h with pos:=24 } tZ)) rfl ⟨rfl,by exact zB⟩
theorem GV (h:Ha) (x:Int) (w:World):Calls Tryz.prog 277 #[.agg (aa h),.int .i64 x] w fun r w'=>r=.returned (.agg (aa (jQ h x)))∧Below w.heap.size w w':=by
 by_cases h0:x=0
 ·rw [show jQ h x=h by simp [jQ,h0]]
  exact MQ h x w h0
 by_cases h2:x=2
 ·rw [show jQ h x={ h with pos:=25 } by simp [jQ,h2]]
  exact MR h x w h2
 have e0:(x == 0)=false:=by simpa using h0
 have e2:(x == 2)=false:=by simpa using h2
 cases hk:(h.code == 1) with
 | true =>
  rw [show jQ h x=aP 1 0 by simp only [jQ,e0,e2,hk];rfl]
  exact MS h x w e0 e2 hk
 | false =>
  rw [show jQ h x={ h with pos:=24 } by simp only [jQ,e0,e2,hk];rfl]
  exact MU h x w e0 e2 hk
theorem Ec (c:Ch) (h:Ha) (v1 v2:Value) (lo:Nat) (w:World) (h1:ag w lo v1 c.cells) (h2:ai w lo v2 c.words) (hk:(h.code != 2)=true) :
  Calls Tryz.prog 278 #[.agg (af c v1 v2),.agg (aa h)] w fun e W'=>∃ T s,e=.panicked [{ v:=.iface T s,recovered:=false }]∧Below w.heap.size w W':=by
 obtain ⟨a1,q1,a2,q2,rfl,rfl,O1,O2,b1,b2⟩:=ql h1 h2
 clear h1 h2
 have o1:=O1.out
 have o2:=O2.out
 go_enter Tryz.func278,Tryz.ntmps278
 go_wp2
 exact ⟨rfl,_,_,rfl,by exact zB⟩
theorem BF (c:Ch) (h:Ha) (v1 v2:Value) (lo:Nat) (w:World) (h1:ag w lo v1 c.cells) (h2:ai w lo v2 c.words) (hc0:0≤h.cell) (hc1:h.cell<c.cells.length) (hk:(h.code != 2)=false) :
  Calls Tryz.prog 278 #[.agg (af c v1 v2),.agg (aa h)] w fun r w'=>r=.returned (.agg (aa (aP 2 (cellAt c h.cell).e)))∧Below w.heap.size w w':=by
 obtain ⟨i,hci⟩:∃ i:Nat,h.cell=(i:Int):=⟨h.cell.toNat,by omega⟩
 have hi:i<c.cells.length:=by omega
 have hi0:(0:Int)≤(i:Int):=by omega
 have hi1:(i:Int)<(c.cells.length:Int):=by omega
 have hne:=h1.ne h2
 obtain ⟨a2,q2,rfl,_⟩:=h2.seg
 obtain ⟨g,q1,rfl,hlo1,hlt,hcell,hfr⟩:=h1.open1 hi
 have O1:=Lib.hid h1
 have O2:=Lib.hid h2
 have jI:g<w.heap.size+1:=by omega
 have jJ:g<w.heap.size+1+1:=by omega
 have jK:g<w.heap.size+1+1+1:=by omega
 have vH:g≠w.heap.size:=by omega
 have vI:g≠w.heap.size+1:=by omega
 have vJ:g≠w.heap.size+1+1:=by omega
 have vK:g≠w.heap.size+1+1+1:=by omega
 have xC:w.heap.size≠g:=by omega
 have xD:w.heap.size+1≠g:=by omega
 have xE:w.heap.size+1+1≠g:=by omega
 have xG:w.heap.size+1+1+1≠g:=by omega
 have hx:Hid (cellAt c h.cell=c.cells.getD i ⟨0,0,0⟩):=by simp [cellAt,Hid,hci]
 have c0:=hcell 0 tO
 have c1:=hcell 1 tO
 have c2:=hcell 2 tO
 simp only [C3.val,Nat.add_zero] at c0 c1 c2
 have ex:=hx.out
 rw [ex]
 generalize c.cells.getD i ⟨0,0,0⟩=x at *
 obtain ⟨s,e,t⟩:=x
 simp only at c0 c1 c2 ⊢
 clear hx ex hcell h1 h2
 go_enter Tryz.func278,Tryz.ntmps278
 go_wp2_with fail;refine ax w zB fun bb=>?_;refine (fT _ _ _).mono ?_;rintro _ w1 ⟨rfl,ah⟩;obtain ⟨aW,ay,zz⟩:=Ct bb ah (b:=w.heap.size);(try simp at ay);(try simp [go_sem] at zz);replace bX:=Cs zz;clear zz ah bb
 go_wp2
 exact bodyPost_ret (ic Tryz.results278 rfl (aj (aP 2 e) tZ)) rfl ⟨rfl,by exact zB⟩
end
section
open Go.RowKit
attribute [local simp] aC
attribute [local go_sem ↓] aB aU aL bB aM bC aG aN au aF
theorem BG (c:Ch) (h:Ha) (v1 v2:Value) (lo:Nat) (w:World) (h1:ag w lo v1 c.cells) (h2:ai w lo v2 c.words) (hc:aK c=true) (hx:gL c h.mine=-1) :
  Calls Tryz.prog 275 #[.agg (af c v1 v2),.agg (aa h)] w fun e W'=>∃ T s,e=.panicked [{ v:=.iface T s,recovered:=false }]∧Below w.heap.size w W':=by
 have OW:=Lib.hid fun W a b=>Ea c h v1 v2 lo W a b hc hx
 clear hx hc
 obtain ⟨a1,q1,a2,q2,rfl,rfl,O1,O2,b1,b2⟩:=ql h1 h2
 clear h1 h2
 have o1:=O1.out
 have o2:=O2.out
 go_enter Tryz.func275,Tryz.ntmps275
 go_wp2_with fail
 refine ax w zB fun bb=>?_
 refine (OW.out _ (zO o1 o1) (zO o2 o2)).mono ?_
 rintro _ w1 ⟨T,s,rfl,hE⟩
 go_wp2
 exact ⟨rfl,T,s,rfl,bT bb hE⟩
theorem yY (c:Ch) (h:Ha) (v1 v2:Value) (lo:Nat) (w:World) (h1:ag w lo v1 c.cells) (h2:ai w lo v2 c.words) (hc:aK c=true) (x:Int) (hx:gL c h.mine=x) (hp:¬ x<0) (hq:(h.pos == 23)=true) :
  cu 275 c h v1 v2 lo w ((c,jQ h x,x != 0)):=by
 have OW:=Lib.hid fun W a b=>kN c h v1 v2 lo W a b hc x hx hp
 clear hx hp hc
 have HE:=Lib.hid fun W=>GV h x W
 obtain ⟨y,hy⟩:∃ y,jQ h x=y:=⟨_,rfl⟩
 rw [hy] at HE
 rw [hy]
 clear hy
 obtain ⟨a1,q1,a2,q2,rfl,rfl,O1,O2,b1,b2⟩:=ql h1 h2
 clear h1 h2
 have o1:=O1.out
 have o2:=O2.out
 go_enter Tryz.func275,Tryz.ntmps275
 go_wp2_with fail;refine ax w zB fun bb=>?_;refine (OW.out _ (zO o1 o1) (zO o2 o2)).mono ?_;rintro _ w1 ⟨rfl,ah⟩;obtain ⟨aW,ay,zz⟩:=dZ bb ah (b:=w.heap.size);(try simp at ay);(try simp [go_sem] at zz);replace bX:=dF zz;clear zz;have dG:=aW;clear ah bb
 have p1:=own_below o1 dG
 have p2:=own_below o2 dG
 obtain ⟨k0,k1,k2,k3⟩:=kZ (a:=w.heap.size) (b:=w1.heap.size)
 go_wp2_with fail
 go_region_held3 (fun w'=>hp w' w.heap.size=some (.cells (af c (.slice a1 c.cells.length q1) (.slice a2 c.words.length q2)) 31)∧hp w' (w.heap.size+1)=some (.cells (aa h) 49))
  (first|(simp [*,go_sem]))
  (first|((go_at_call 277;refine ax w zB fun bb=>?_;refine ax w1 zB fun bk=>?_;refine (HE.out _).mono ?_;rintro _ w2 ⟨rfl,hbw2⟩;obtain ⟨dE,bu,zz⟩:=dZ bb hbw2 (b:=w.heap.size);(try simp at bu);(first|simp [go_sem,bX,k0,k1,k2,k3] at zz|simp [go_sem] at zz|skip);replace bX:=dF zz;clear zz;have eu:=bT bk hbw2;clear hbw2 bb bk);have r1:=own_below p1 eu;have r2:=own_below p2 eu))
 go_wp2
 refine rE Tryz.results275 rfl (az c (.slice a1 c.cells.length q1) (.slice a2 c.words.length q2) tZ) rfl (aj y tZ) ⟨⟨_,_,rfl,?_,?_,ak _ _,ak _ _⟩,dx zB⟩
 ·exact zO r1 o1
 ·exact zO r2 o2
theorem wh (c:Ch) (h:Ha) (v1 v2:Value) (lo:Nat) (w:World) (h1:ag w lo v1 c.cells) (h2:ai w lo v2 c.words) (hc:aK c=true) (x:Int) (hx:gL c h.mine=x) (hp:¬ x<0) (hq:(h.pos == 24)=true) (hk:(h.code != 2)=true) :
  Calls Tryz.prog 275 #[.agg (af c v1 v2),.agg (aa h)] w fun e W'=>∃ T s,e=.panicked [{ v:=.iface T s,recovered:=false }]∧Below w.heap.size w W':=by
 have OW:=Lib.hid fun W a b=>kN c h v1 v2 lo W a b hc x hx hp
 clear hx hp hc
 have FE:=Lib.hid fun W a b=>Ec c h v1 v2 lo W a b hk
 clear hk
 have hq3:(h.pos == 23)=false:=by simp at hq ⊢;omega
 obtain ⟨a1,q1,a2,q2,rfl,rfl,O1,O2,b1,b2⟩:=ql h1 h2
 clear h1 h2
 have o1:=O1.out
 have o2:=O2.out
 go_enter Tryz.func275,Tryz.ntmps275
 go_wp2_with fail;refine ax w zB fun bb=>?_;refine (OW.out _ (zO o1 o1) (zO o2 o2)).mono ?_;rintro _ w1 ⟨rfl,ah⟩;obtain ⟨aW,ay,zz⟩:=dZ bb ah (b:=w.heap.size);(try simp at ay);(try simp [go_sem] at zz);replace bX:=dF zz;clear zz;have dG:=aW;clear ah bb
 have p1:=own_below o1 dG
 have p2:=own_below o2 dG
 obtain ⟨k0,k1,k2,k3⟩:=kZ (a:=w.heap.size) (b:=w1.heap.size)
 go_upto_region 6 with fail
 refine bI [[],[],[],[1,2],[0],[1,2,3],[]] [23,24,25,26,6] (fun l s wx=>(Below w.heap.size w wx)∧(hp wx w.heap.size=some (.cells (af c (.slice a1 c.cells.length q1) (.slice a2 c.words.length q2)) 31))∧(hp wx (w.heap.size+1)=some (.cells (aa h) 49))∧(l 4=false→hp wx (w.heap.size+1+1)=some (.cells (af Ch.zero (.slice none 0 0) (.slice none 0 0)) 31))∧(ag wx lo (.slice a1 c.cells.length q1) c.cells)∧(ai wx lo (.slice a2 c.words.length q2) c.words)∧(l 0=true→s 23=.agg (af c (.slice a1 c.cells.length q1) (.slice a2 c.words.length q2)))∧(l 1=true→s 24=.agg (af c (.slice a1 c.cells.length q1) (.slice a2 c.words.length q2)))∧(l 2=true→s 25=.agg (aa h))∧(l 3=true→False)) (by kernel_rfl) (by kernel_rfl) (by kernel_rfl) (fun s=>by (simp only [fill,fC,List.setIfInBounds_toArray,List.set_cons_zero,List.set_cons_succ];rfl)) (fun s=>⟨zB,by simp [go_sem, *],by simp [go_sem, *],fun _=>by simp [go_sem, *],vv p1,vv p2,nB,nB,nB,nB⟩) ?_ ?_
 refine ⟨?_,?_,?_,?_,?_,?_,?_,trivial⟩;iterate 7 (intro l s wx hl hd hn hf K hK;rotate_left)
 ·intro l s w8 hall hf
  exact ((jD hf).2 (hall 3 rfl)).elim
 ·have zc:=hf.out.2.1
  go_simp
  refine hK.out (upd s 23 (.agg (af c (.slice a1 c.cells.length q1) (.slice a2 c.words.length q2)))) _ _ (by simp [ae] <;> rfl) (kC (kB (kX (fun _=>rfl) id)) hf.out)
 ·have zc:=hf.out.2.1
  go_simp
  refine hK.out (upd s 24 (.agg (af c (.slice a1 c.cells.length q1) (.slice a2 c.words.length q2)))) _ _ (by simp [ae] <;> rfl) (kC (kB (kA (kX (fun _=>rfl) id))) hf.out)
 ·have zh:=hf.out.2.2.1
  go_simp
  refine hK.out (upd s 25 (.agg (aa h))) _ _ (by simp [ae] <;> rfl) (kD (kX (fun _=>rfl) id) hf.out)
 ·have e1:=((jC hf.out).2.2.2.1 (hd 1 rfl))
  have e2:=((jD hf.out).1 (hd 2 rfl))
  go_simp
  go_at_call 278
  refine (FE.out _ hf.out.2.2.2.2.1 (jC hf.out).2.1).mono ?_
  rintro _ wy ⟨T,sv,rfl,hE⟩
  exact ⟨rfl,T,sv,rfl,bT hf.out.1 hE⟩
 ·have e0:=((jC hf.out).2.2.1 (hd 0 rfl))
  have hB:=hf.out.1
  have zr:=hf.out.2.2.2.1 hl
  go_simp
  refine hK.out (s) _ _ (by simp [ae,e0] <;> rfl) (kX (Fb hB tO) (kX ((aD tO).trans hf.out.2.1) (kX ((aD tO).trans hf.out.2.2.1) (kX (fun h9=>absurd h9 (by rw [show upd l 4 true 4=true from rfl];decide)) (kX (cO hf.out.2.2.2.2.1 zr (by decide)) (kX (cO (jC hf.out).2.1 zr (by decide)) id))))) hf.out)
 ·exact ((jD hf).2 (hd 3 rfl)).elim
 ·go_simp
  refine hK.out (upd s 6 (.bool true)) _ _ (by simp [ae] <;> rfl) (hf.out)
theorem yZ (c:Ch) (h:Ha) (v1 v2:Value) (lo:Nat) (w:World) (h1:ag w lo v1 c.cells) (h2:ai w lo v2 c.words) (hc0:0≤h.cell) (hc1:h.cell<c.cells.length) (hc:aK c=true) (x:Int) (hx:gL c h.mine=x) (hp:¬ x<0) (hq:(h.pos == 24)=true) (hk:(h.code != 2)=false) :
  cu 275 c h v1 v2 lo w ((c,aP 2 (cellAt c h.cell).e,true)):=by
 have OW:=Lib.hid fun W a b=>kN c h v1 v2 lo W a b hc x hx hp
 clear hx hp hc
 have FE:=Lib.hid fun W a b=>BF c h v1 v2 lo W a b hc0 hc1 hk
 clear hk hc0 hc1
 have hq3:(h.pos == 23)=false:=by simp at hq ⊢;omega
 obtain ⟨y,hy⟩:∃ y,aP 2 (cellAt c h.cell).e=y:=⟨_,rfl⟩
 rw [hy] at FE
 rw [hy]
 clear hy
 obtain ⟨a1,q1,a2,q2,rfl,rfl,O1,O2,b1,b2⟩:=ql h1 h2
 clear h1 h2
 have o1:=O1.out
 have o2:=O2.out
 go_enter Tryz.func275,Tryz.ntmps275
 go_wp2_with fail;refine ax w zB fun bb=>?_;refine (OW.out _ (zO o1 o1) (zO o2 o2)).mono ?_;rintro _ w1 ⟨rfl,ah⟩;obtain ⟨aW,ay,zz⟩:=dZ bb ah (b:=w.heap.size);(try simp at ay);(try simp [go_sem] at zz);replace bX:=dF zz;clear zz;have dG:=aW;clear ah bb
 have p1:=own_below o1 dG
 have p2:=own_below o2 dG
 obtain ⟨k0,k1,k2,k3⟩:=kZ (a:=w.heap.size) (b:=w1.heap.size)
 go_wp2_with fail
 go_region_held3 (fun w'=>hp w' w.heap.size=some (.cells (af c (.slice a1 c.cells.length q1) (.slice a2 c.words.length q2)) 31)∧hp w' (w.heap.size+1)=some (.cells (aa h) 49))
  (first|(simp [*,go_sem]))
  (first|((go_at_call 278;refine ax w zB fun bb=>?_;refine ax w1 zB fun bk=>?_;refine (FE.out _ (zO p1 p1) (zO p2 p2)).mono ?_;rintro _ w2 ⟨rfl,hbw2⟩;obtain ⟨dE,bu,zz⟩:=dZ bb hbw2 (b:=w.heap.size);(try simp at bu);(first|simp [go_sem,bX,k0,k1,k2,k3] at zz|simp [go_sem] at zz|skip);replace bX:=dF zz;clear zz;have eu:=bT bk hbw2;clear hbw2 bb bk);have r1:=own_below p1 eu;have r2:=own_below p2 eu))
 go_wp2
 refine rE Tryz.results275 rfl (az c (.slice a1 c.cells.length q1) (.slice a2 c.words.length q2) tZ) rfl (aj y tZ) ⟨⟨_,_,rfl,?_,?_,ak _ _,ak _ _⟩,dx zB⟩
 ·exact zO r1 o1
 ·exact zO r2 o2
theorem BH (c:Ch) (h:Ha) (v1 v2:Value) (lo:Nat) (w:World) (h1:ag w lo v1 c.cells) (h2:ai w lo v2 c.words) (hc:aK c=true) (x:Int) (hx:gL c h.mine=x) (hp:¬ x<0) (hq:(h.pos == 23)=false) (hq4:(h.pos == 24)=false) (PN:(h.pos == 25)=false) :
  Calls Tryz.prog 275 #[.agg (af c v1 v2),.agg (aa h)] w fun e W'=>∃ T s,e=.panicked [{ v:=.iface T s,recovered:=false }]∧Below w.heap.size w W':=by
 have OW:=Lib.hid fun W a b=>kN c h v1 v2 lo W a b hc x hx hp
 clear hx hp hc
 obtain ⟨a1,q1,a2,q2,rfl,rfl,O1,O2,b1,b2⟩:=ql h1 h2
 clear h1 h2
 have o1:=O1.out
 have o2:=O2.out
 go_enter Tryz.func275,Tryz.ntmps275
 go_wp2_with fail;refine ax w zB fun bb=>?_;refine (OW.out _ (zO o1 o1) (zO o2 o2)).mono ?_;rintro _ w1 ⟨rfl,ah⟩;obtain ⟨aW,ay,zz⟩:=dZ bb ah (b:=w.heap.size);(try simp at ay);(try simp [go_sem] at zz);replace bX:=dF zz;clear zz;have dG:=aW;clear ah bb
 have p1:=own_below o1 dG
 have p2:=own_below o2 dG
 obtain ⟨k0,k1,k2,k3⟩:=kZ (a:=w.heap.size) (b:=w1.heap.size)
 go_wp2
 exact ⟨rfl,_,_,rfl,by exact zB⟩
theorem ze (c:Ch) (h:Ha) (v1 v2:Value) (lo:Nat) (w:World) (h1:ag w lo v1 c.cells) (h2:ai w lo v2 c.words) (hc0:0≤h.cell) (hc1:h.cell<c.cells.length) (hc:aK c=true) (x:Int) (hx:gL c h.mine=x) (hp:¬ x<0) (hq:(h.pos == 25)=true) :
  cu 275 c h v1 v2 lo w ((bP c h.cell (wZ h),aP 3 0,true)):=by
 have OW:=Lib.hid fun W a b=>kN c h v1 v2 lo W a b hc x hx hp
 clear hx hp hc
 obtain ⟨v,hv⟩:∃ v,wZ h=v:=⟨_,rfl⟩
 have GO:=Lib.hid fun W=>Eb h.code h.elem W
 rw [show (if h.code == 1 then (9:Int) else 10)=v from hv] at GO
 rw [hv]
 clear hv
 obtain ⟨i,hci⟩:∃ i:Nat,h.cell=(i:Int):=⟨h.cell.toNat,by omega⟩
 have hi:i<c.cells.length:=by omega
 have hi0:(0:Int)≤(i:Int):=by omega
 have hi1:(i:Int)<(c.cells.length:Int):=by omega
 have hne:=h1.ne h2
 obtain ⟨a2,q2,rfl,_⟩:=h2.seg
 obtain ⟨g,q1,rfl,hlo1,hlt,hcell,hfr⟩:=h1.open1 hi
 have O1:=Lib.hid h1
 have O2:=Lib.hid h2
 have jI:g<w.heap.size+1:=by omega
 have jJ:g<w.heap.size+1+1:=by omega
 have jK:g<w.heap.size+1+1+1:=by omega
 have vH:g≠w.heap.size:=by omega
 have vI:g≠w.heap.size+1:=by omega
 have vJ:g≠w.heap.size+1+1:=by omega
 have vK:g≠w.heap.size+1+1+1:=by omega
 have xC:w.heap.size≠g:=by omega
 have xD:w.heap.size+1≠g:=by omega
 have xE:w.heap.size+1+1≠g:=by omega
 have xG:w.heap.size+1+1+1≠g:=by omega
 have hx:Hid (cellAt c h.cell=c.cells.getD i ⟨0,0,0⟩):=by simp [cellAt,Hid,hci]
 have c0:=hcell 0 tO
 have c1:=hcell 1 tO
 have c2:=hcell 2 tO
 simp only [C3.val,Nat.add_zero] at c0 c1 c2
 have hq3:(h.pos == 23)=false:=by simp at hq ⊢;omega
 have hq4:(h.pos == 24)=false:=by simp at hq ⊢;omega
 rw [show bP c h.cell v=bP c i v by rw [hci]]
 have e1:=iq c i v
 have P1:=fun W (o:ag W lo (.slice (some ⟨g,0,none⟩) c.cells.length q1) c.cells)=>ag.setS o hi v
 rw [← e1] at P1
 clear hx hcell h1 h2 e1
 generalize c.cells.getD i ⟨0,0,0⟩=x0 at *
 have o1:=O1.out
 have o2:=O2.out
 have NI:=Lib.hid hci
 clear hci hc0 hc1
 go_enter Tryz.func275,Tryz.ntmps275
 go_wp2_with fail;refine ax w zB fun bb=>?_;refine (OW.out _ (zO o1 o1) (zO o2 o2)).mono ?_;rintro _ w1 ⟨rfl,ah⟩;have aW:Below w.heap.size w w1:=bT bb ah;have ay:=ah.size;(try simp at ay);have zz:=q4 ah (b:=w.heap.size);(try simp [go_sem] at zz);(try clear aA bK bL aR);(try clear aH cB cK bq);(try clear bz di dz bZ);(try clear dw dV eD dJ);obtain ⟨aA,aH,bz,dw⟩:=zz;obtain ⟨bK,bL,aR⟩:=bO aA;obtain ⟨cB,cK,bq⟩:=bO aH;obtain ⟨di,dz,bZ⟩:=bO bz;obtain ⟨dV,eD,dJ⟩:=bO dw;have dG:Below w.heap.size w w1:=aW;clear ah bb
 have p1:=own_below o1 dG
 have p2:=own_below o2 dG
 obtain ⟨k0,k1,k2,k3⟩:=kZ (a:=w.heap.size) (b:=w1.heap.size)
 go_upto_region 8 with fail
 refine bI [[],[0],[],[2],[],[4],[4,5],[0,1,2,3],[0,1,2,3,7],qB [8]] [29,30,31,32,33,34,35,36,37] (fun l s wx=>(l 9=false→Below w1.heap.size w1 wx)∧(l 0=true→s 29=.pointer (some ⟨w.heap.size,4,none⟩))∧(l 1=true→s 30=.slice (some ⟨g,0,none⟩) c.cells.length q1)∧(l 2=true→s 31=.pointer (some ⟨w.heap.size+1,3,none⟩))∧(l 3=true→s 32=.int .i64 i)∧(l 4=true→s 33=.pointer (some ⟨w.heap.size+1,1,none⟩))∧(l 5=true→s 34=.agg #[.int .i64 h.code,.int .i64 h.elem])∧(l 6=true→s 35=.int .i64 v)∧(l 7=true→s 36=.pointer (some ⟨g,i*3,none⟩))∧(l 8=true→s 37=.pointer (some ⟨g,i*3,none⟩))∧(l 9=true→Gr g w1 wx∧ag wx lo (.slice (some ⟨g,0,none⟩) c.cells.length q1) (bP c i v).cells∧ai wx lo (.slice a2 c.words.length q2) c.words)) (by kernel_rfl) (by kernel_rfl) (by kernel_rfl) (fun s=>by (simp only [fill,fC,List.setIfInBounds_toArray,List.set_cons_zero,List.set_cons_succ];rfl)) (fun s=>⟨fun _=>(Below.refl _ _).drew,nB,nB,nB,nB,nB,nB,nB,nB,nB,nB⟩) ?_ ?_
 refine ⟨?_,?_,?_,?_,?_,?_,?_,?_,?_,?_,trivial⟩;iterate 10 (intro l s wx hl hd hn hf K hK;rotate_left)
 ·intro l s w5 hall hf
  obtain ⟨kL,r1,r2⟩:=((jD hf).2.2 (hall 9 rfl))
  clear hf hall
  have QH:some w.heap.size≠some g:=by simp;omega
  have QI:some (w.heap.size+1)≠some g:=by simp;omega
  have QJ:some (w.heap.size+1+1)≠some g:=by simp;omega
  have QK:some (w.heap.size+1+1+1)≠some g:=by simp;omega
  have iL:=kL.size;(try (simp at iL));have zz:=And.intro (dB kL (b:=w.heap.size+1+1+1) tS (by assumption)) <| And.intro (dB kL (b:=w.heap.size+1+1) tS (by assumption)) <| And.intro (dB kL (b:=w.heap.size+1) tS (by assumption)) <| dB kL (b:=w.heap.size) tS (by assumption);(first|simp [go_sem,aA,aH,bz,dw,dJ,bZ,bq,aR,k0,k1,k2,k3] at zz|simp [go_sem] at zz|skip);(try clear aA bK bL aR);(try clear aH cB cK bq);(try clear bz di dz bZ);(try clear dw dV eD dJ);obtain ⟨aA,aH,bz,dw⟩:=zz;obtain ⟨bK,bL,aR⟩:=bO aA;obtain ⟨cB,cK,bq⟩:=bO aH;obtain ⟨di,dz,bZ⟩:=bO bz;obtain ⟨dV,eD,dJ⟩:=bO dw
  have TE:Gr g w w5:=gT (pO aW) kL
  clear kL
  go_wp2_with fail
  go_region_held3 (fun w'=>hp w' w.heap.size=some (.cells (af c (.slice (some ⟨g,0,none⟩) c.cells.length q1) (.slice a2 c.words.length q2)) 31)∧hp w' (w.heap.size+1)=some (.cells (aa h) 49))
   (first|(simp [*,go_sem]))
   (first|(go_at_call 48;refine (fT _ _ _).mono ?_;rintro _ w6 ⟨rfl,il⟩;have PG:Gr g w w6:=gT zG (pO il);have xW:=il.size;(try (simp at xW));have zz:=hQ il (b:=w.heap.size);(first|(simp [go_sem,dw,dJ] at zz)|(simp [go_sem] at zz));(try clear dV eD);(try clear dw);have dw:=zz;clear zz;(try clear dJ);obtain ⟨dV,eD,dJ⟩:=bO dw;have zz:=hQ il (b:=w.heap.size+1);(first|(simp [go_sem,bz,bZ] at zz)|(simp [go_sem] at zz));(try clear di dz);(try clear bz);have bz:=zz;clear zz;(try clear bZ);obtain ⟨di,dz,bZ⟩:=bO bz;have zz:=hQ il (b:=w.heap.size+1+1);(first|(simp [go_sem,aH,bq] at zz)|(simp [go_sem] at zz));(try clear cB cK);(try clear aH);have aH:=zz;clear zz;(try clear bq);obtain ⟨cB,cK,bq⟩:=bO aH;have zz:=hQ il (b:=w.heap.size+1+1+1);(first|(simp [go_sem,aA,aR] at zz)|(simp [go_sem] at zz));(try clear bK bL);(try clear aA);have aA:=zz;clear zz;(try clear aR);obtain ⟨bK,bL,aR⟩:=bO aA;have p1:ag w6 lo (.slice (some ⟨g,0,none⟩) c.cells.length q1) (bP c i v).cells:=own_below (zO r1 o1) il;have p2:ai w6 lo (.slice a2 c.words.length q2) c.words:=own_below (zO r2 o2) il))
  go_wp2
  refine rE Tryz.results275 rfl (az (bP c i v) (.slice (some ⟨g,0,none⟩) c.cells.length q1) (.slice a2 c.words.length q2) tZ) rfl (aj (aP 3 0) tZ) ⟨⟨_,_,rfl,?_,?_,ak _ _,ak _ _⟩,lW (show w.grownBy _ (some g) from zG)⟩
  ·show ag _ lo (.slice (some ⟨g,0,none⟩) c.cells.length q1) (bP c i v).cells
   exact zO p1 o1
  ·show ai _ lo (.slice a2 c.words.length q2) c.words
   exact zO p2 o2
 ·have hB:=hf.out.1 (hn 9 rfl)
  go_simp
  refine hK.out (upd s 29 (.pointer (some ⟨w.heap.size,4,none⟩))) _ _ (by simp [ae] <;> rfl) (kA (kX (fun _=>rfl) id) hf.out)
 ·have e0:=(hf.out.2.1 (hd 0 rfl))
  have hB:=hf.out.1 (hn 9 rfl)
  have zc:=dS dw hB
  have zh:=dS bz hB
  have q:=(bO zc).1 4
  go_simp
  refine hK.out (upd s 30 (.slice (some ⟨g,0,none⟩) c.cells.length q1)) _ _ (by simp [ae,e0] <;> rfl) (kB (kX (fun _=>rfl) id) hf.out)
 ·have hB:=hf.out.1 (hn 9 rfl)
  go_simp
  refine hK.out (upd s 31 (.pointer (some ⟨w.heap.size+1,3,none⟩))) _ _ (by simp [ae] <;> rfl) (kB (kA (kX (fun _=>rfl) id)) hf.out)
 ·have e2:=(hf.out.2.2.2.1 (hd 2 rfl))
  have hB:=hf.out.1 (hn 9 rfl)
  have zc:=dS dw hB
  have zh:=dS bz hB
  have q:wx.cell? ⟨w.heap.size+1,3,none⟩=some (.int .i64 i):=by rw [← NI.out];exact (bO zh).1 3
  go_simp
  refine hK.out (upd s 32 (.int .i64 i)) _ _ (by simp [ae,e2] <;> rfl) (kC (kX (fun _=>rfl) id) hf.out)
 ·have hB:=hf.out.1 (hn 9 rfl)
  go_simp
  refine hK.out (upd s 33 (.pointer (some ⟨w.heap.size+1,1,none⟩))) _ _ (by simp [ae] <;> rfl) (kC (kA (kX (fun _=>rfl) id)) hf.out)
 ·have e4:=((jC hf.out).2.1 (hd 4 rfl))
  have hB:=hf.out.1 (hn 9 rfl)
  have zc:=dS dw hB
  have zh:=dS bz hB
  have qa:=(bO zh).1 1
  have qb:=(bO zh).1 2
  go_simp
  refine hK.out (upd s 34 (.agg #[.int .i64 h.code,.int .i64 h.elem])) _ _ (by simp [ae,e4] <;> rfl) (kC (kB (kX (fun _=>rfl) id)) hf.out)
 ·have e5:=((jC hf.out).2.2.1 (hd 5 rfl))
  have hB:=hf.out.1 (hn 9 rfl)
  go_simp
  go_at_call 279
  refine (GO.out _).mono ?_
  rintro _ wy ⟨rfl,hE⟩
  refine hK.out (upd s 35 (.int .i64 v)) _ _ (by simp [ae,e5] <;> rfl) (kX (fun h9=>bT (hf.out.1 h9) hE) (kC (kB (kX (fun _=>rfl) (kB (fun _=>nU (hn 9 rfl)))))) hf.out)
 ·have e1:=(hf.out.2.2.1 (hd 1 rfl))
  have e3:=(hf.out.2.2.2.2.1 (hd 3 rfl))
  have hB:=hf.out.1 (hn 9 rfl)
  go_simp
  refine hK.out (upd s 36 (.pointer (some ⟨g,i*3,none⟩))) _ _ (by simp [ae,e1,e3] <;> rfl) (kD (kX (fun _=>rfl) id) hf.out)
 ·have e7:=((jD hf.out).1 (hd 7 rfl))
  have hB:=hf.out.1 (hn 9 rfl)
  go_simp
  refine hK.out (upd s 37 (.pointer (some ⟨g,i*3,none⟩))) _ _ (by simp [ae,e7] <;> rfl) (kD (kA (kX (fun _=>rfl) id)) hf.out)
 ·have e8:=((jD hf.out).2.1 (hd 8 rfl))
  have e6:=((jC hf.out).2.2.2.1 (hd 6 rfl))
  have hB:=hf.out.1 hl
  have y0:=((bT aW hB).cell (p:=⟨g,i*3,none⟩) hlt).trans c0
  have yf:=fun o=>((bT aW hB).frozen (p:=⟨g,o,none⟩) hlt).trans (hfr o)
  go_simp
  refine hK.out (s) _ _ (by simp [ae,e8,e6] <;> rfl) (kX (fun h9=>absurd h9 (by rw [show upd l 9 true 9=true from rfl];decide)) (kD (kA (fun _=>fun _=>⟨gS (pO hB) (.inl rfl),P1 _ (own_below p1 hB),aS (own_below p2 hB) (hne g rfl) _⟩))) hf.out)
theorem Ed {c:Ch} {v:Int} (hw:kF c v=false):gL c v=-1:=by simp [gL,hw]
theorem Kl {c:Ch} {v:Int} (hc:aK c=true) (hw:kF c v=true):¬ gL c v<0∧gL c v=eF c v:=by
 have e0:gL c v=eF c v:=by simp [gL,hc,hw]
 refine ⟨?_,e0⟩
 rw [e0]
 simp only [aK,Bool.and_eq_true] at hc
 have ha:=List.all_eq_true.1 hc.2.2
 obtain ⟨h1,h2⟩:=nY.1 hw
 have hi:(v - 1).toNat<c.words.length:=by omega
 have:=kY.1 (ha _ (List.getElem_mem hi))
 have e:eF c v=c.words[(v - 1).toNat]:=by unfold eF;rw [List.getD_eq_getElem?_getD,List.getElem?_eq_getElem hi];rfl
 rw [e]
 omega
theorem rC {c:Ch} {h:Ha}:kP (c,h,true)=done c h:=rfl
theorem Ee {h:Ha} (hh:bW h=true) (hp:23≤h.pos):h.code=1∨h.code=2:=by
 simp only [bW,qo,Bool.and_eq_true,kY] at hh
 have h0:¬ h.pos=0:=by omega
 simp [h0] at hh
 have:=hh.1.2
 simp [dO] at this
 omega
theorem wm (c:Ch) (h:Ha) (hc:aK c=true) (hh:bW h=true) :
  (∃ x:St,bU c h=kP x∧∀ (v1 v2:Value) (lo:Nat) (W:World),ag W lo v1 c.cells→ai W lo v2 c.words→lo≤W.heap.size→Calls Tryz.prog 275 #[.agg (af c v1 v2),.agg (aa h)] W fun r w'=>cz W w' lo v1 v2 x r) ∨
  (bU c h=nothing∧∀ (v1 v2:Value) (lo:Nat) (W:World),ag W lo v1 c.cells→ai W lo v2 c.words→lo≤W.heap.size→Calls Tryz.prog 275 #[.agg (af c v1 v2),.agg (aa h)] W fun e W'=>∃ T s,e=.panicked [{ v:=.iface T s,recovered:=false }]∧Below W.heap.size W W'):=by
 cases hw:kF c h.mine with
 | false=>exact .inr ⟨by simp [bU,hw],fun v1 v2 lo W o1 o2 _=>BG c h v1 v2 lo W o1 o2 hc (Ed hw)⟩
 | true =>
  obtain ⟨hx0,hx1⟩:=Kl hc hw
  obtain ⟨hc0,RJ⟩:=fM hh
  have hc1:h.cell<c.cells.length:=by have:=(jh hc).1;omega
  cases hq:(h.pos == 23) with
  | true =>
   have hp:h.pos=23:=by simpa using hq
   refine .inl ⟨(c,jQ h (gL c h.mine),gL c h.mine != 0),?_,fun v1 v2 lo W o1 o2 _=>yY c h v1 v2 lo W o1 o2 hc _ rfl hx0 hq⟩
   have hok:bf c h 23 25 0=true:=by simp [bf,hc,hh,hp,dm]
   rw [hx1]
   by_cases h0:eF c h.mine=0
   ·simp [bU,hok,hw,hp,jf,h0,jQ,kP,hc,hh]
   ·have h0':(eF c h.mine != 0)=true:=by simpa using h0
    rw [h0',rC]
    simp only [bU,hok,hw,hp,jf,jQ]
    simp [h0]
    by_cases h2:eF c h.mine=2
    ·simp [h2]
    ·by_cases hk:h.code=1 <;> simp [h2,hk]
  | false =>
   have hp3:¬ h.pos=23:=by simpa using hq
   cases hq4:(h.pos == 24) with
   | true =>
    have hp:h.pos=24:=by simpa using hq4
    have hok:bf c h 23 25 0=true:=by simp [bf,hc,hh,hp,dm]
    cases hk:(h.code != 2) with
    | true =>
     refine .inr ⟨?_,fun v1 v2 lo W o1 o2 _=>wh c h v1 v2 lo W o1 o2 hc _ rfl hx0 hq4 hk⟩
     have hk2:¬ h.code=2:=by simpa using hk
     have hk1:h.code=1:=by have:=Ee hh tO;omega
     simp [bU,hok,hw,hp,hk1]
    | false =>
     refine .inl ⟨(c,aP 2 (cellAt c h.cell).e,true),?_,fun v1 v2 lo W o1 o2 _=>yZ c h v1 v2 lo W o1 o2 hc0 hc1 hc _ rfl hx0 hq4 hk⟩
     have hk2:h.code=2:=by simpa using hk
     rw [rC]
     simp [bU,hok,hw,hp,hk2]
   | false =>
    have Xp:¬ h.pos=24:=by simpa using hq4
    cases PN:(h.pos == 25) with
    | true =>
     have hp:h.pos=25:=by simpa using PN
     have hok:bf c h 23 25 0=true:=by simp [bf,hc,hh,hp,dm]
     refine .inl ⟨(bP c h.cell (wZ h),aP 3 0,true),?_,fun v1 v2 lo W o1 o2 _=>ze c h v1 v2 lo W o1 o2 hc0 hc1 hc _ rfl hx0 PN⟩
     rw [rC]
     simp [bU,hok,hw,hp]
    | false =>
     have Xq:¬ h.pos=25:=by simpa using PN
     refine .inr ⟨?_,fun v1 v2 lo W o1 o2 _=>BH c h v1 v2 lo W o1 o2 hc _ rfl hx0 hq hq4 PN⟩
     have hno:bf c h 23 25 0=false:=by
      have:dm h.pos 23 25=false:=by simp [dm];omega
      simp [bf,this]
     simp [bU,hno]
end
section
open Go.RowKit
attribute [local simp] aC
attribute [local go_sem ↓] aB aU aL bB aM bC aG aN au aF
theorem Km (w:World):Calls Tryz.prog 233 #[] w fun r w'=>r=.returned (.tuple #[.agg (af Ch.zero (.slice none 0 0) (.slice none 0 0)),.agg (aa Ha.zero),.bool false])∧Below w.heap.size w w':=by
 go_enter Tryz.func233,Tryz.ntmps233
 go_wp2
 refine rE Tryz.results233 rfl (az Ch.zero (.slice none 0 0) (.slice none 0 0) (by simp [go_sem])) rfl (aj Ha.zero (by simp [go_sem])) ⟨rfl,by exact zB⟩
theorem FK {P:Program} {fn:Func} {tmps:Array Value} {w:World} {p q u:Nat} {T S U:TypeId} {a a' a2:Addr} {x y z:Value} (h:fn.results=#[.cell p T,.cell q S,.cell u U]) (hp:tmps.getD p undef=.pointer (some a)) (hl:(loadVar T a).run P w=.ok x w) (hp':tmps.getD q undef=.pointer (some a')) (hl':(loadVar S a').run P w=.ok y w) (hp2:tmps.getD u undef=.pointer (some a2)) (hl2:(loadVar U a2).run P w=.ok z w):(results fn tmps).run P w=.ok (.tuple #[x,y,z]) w:=by
 simp only [results,h]
 simp [Sem.run_bind,Result.andThen,asAddr] at *
 simp [hp,hl,hp',hl',hp2,hl2]
theorem Kn {w:World} {b:Nat} {v:Bool} (h:hp w b=some (.cells #[.bool v] 4)):(loadVar 4 ⟨b,0,none⟩).run Tryz.prog w=.ok (.bool v) w:=by
 have c:=(bO h).1 0
 simp at c
 simp [go_sem,c]
theorem MV {lo:Nat} {w W W':World} (h:Below lo w W) (k:Below lo W W'):Below lo w W':=⟨k.os.trans h.os,k.tape.trans h.tape,k.output.trans h.output,Nat.le_trans h.size k.size,fun i hi=>(k.block i hi).trans (h.block i hi)⟩
theorem BI {w:World} {lo b i k m:Nat} {e T':TypeId} {u v:Value} {xs:List Value} {y:Array Value} (h:w.ownsRow lo e k u m xs) (hz:hp w b=some (.cells y T')) (hne:e≠T'):(w.setCell ⟨b,i,none⟩ v).ownsRow lo e k u m xs:=h.kept (gS (gR _ _) (.inl rfl)) (.inr fun e2=>dh h hz hne b e2 rfl)
theorem Ko {lo b i:Nat} {w W:World} {v:Value} (h:Below lo w W) (hb:lo≤b):Below lo w (W.setCell ⟨b,i,none⟩ v):=⟨h.os,h.tape,h.output,by simpa [World.setCell] using h.size,fun k hk=>(Below.heap_setCell _ _ _ k (by simp;omega)).trans (h.block k hk)⟩
theorem GX (b4 b5 b6:Nat) (T:TypeId) (s:Value) (older:List PanicEntry) (w:World) (x4:Array Value) (x5:Array Value) (x6:Value) (z4:hp w b4=some (.cells x4 31)) (s4:x4.size=6) (z5:hp w b5=some (.cells x5 49)) (s5:x5.size=14) (z6:hp w b6=some (.cells #[x6] 4)) :
  CallsD Tryz.prog 274 #[.pointer (some ⟨b4,0,none⟩),.pointer (some ⟨b5,0,none⟩),.pointer (some ⟨b6,0,none⟩)] (.panicking ({ v:=.iface T s,recovered:=false } :: older)) w fun e u' w' =>
   e=.returned (.tuple #[])∧u'=.panicking ({ v:=.iface T s,recovered:=true } :: older)∧hp w' b4=some (.cells (af Ch.zero (.slice none 0 0) (.slice none 0 0)) 31)∧hp w' b5=some (.cells (aa Ha.zero) 49)∧hp w' b6=some (.cells #[.bool false] 4)∧(∀ lo,lo≤b4→lo≤b5→lo≤b6→lo≤w.heap.size→Below lo w w'):=by
 refine callsD_of_wpS Tryz.func274 rfl fun c₀ cs hu=>?_
 apply wpS_seq
 apply wpS_region
 simp [wpOpsS,go_sem,recoverD,hu,Tryz.ntmps274,Exit.thenS]
 refine wpS_cond (t:=true) (by simp [Act.eval,Array.replicate]) ?_
 simp only [if_true]
 refine wpS_of_wp ?_
 simp only [Array.replicate_succ,Array.replicate_zero,List.push_toArray,List.append_toArray,List.nil_append,List.cons_append,List.setIfInBounds_toArray,List.set_cons_zero,List.set_cons_succ]
 have n45:b4≠b5:=by rintro rfl;rw [z4] at z5;simp at z5
 have n46:b4≠b6:=by rintro rfl;rw [z4] at z6;simp at z6
 have n56:b5≠b6:=by rintro rfl;rw [z5] at z6;simp at z6
 go_wp2_with (go_at_call 233;refine (Km _).mono ?_;rintro _ w1 ⟨rfl,hE⟩;have QM:=dS z4 hE;have VK:=dS z5 hE;have VL:=dS z6 hE;have k4:okO 6 (hp w1 b4)=true:=(by rw [QM];simp [okO,s4]);have q5:=ni (ys:=af Ch.zero (.slice none 0 0) (.slice none 0 0)) QM VK (by decide);have k5:okO 14 (hp (bY w1 b4 (af Ch.zero (.slice none 0 0) (.slice none 0 0))) b5)=true:=(by rw [q5];simp [okO,s5]);have q6:=ni (ys:=af Ch.zero (.slice none 0 0) (.slice none 0 0)) QM VL (by decide);have r6:=ni (ys:=aa Ha.zero) q5 q6 (by decide);have r4:=ni (ys:=aa Ha.zero) q5 (fH (ys:=af Ch.zero (.slice none 0 0) (.slice none 0 0)) QM) (by decide);have r5:=fH (ys:=aa Ha.zero) q5;obtain ⟨c6,f6,l6⟩:=bO r6)
 refine ⟨rfl,_,rfl,_,results_none rfl _ _ _,rfl,rfl,(Below.heap_setCell _ _ _ b4 n46).trans r4,(Below.heap_setCell _ _ _ b5 n56).trans r5,by rw [fF,r6];rfl,fun lo l4 l5 l6 l=>Ko (Fb (Fb (show Below lo w w1 from ⟨hE.os,hE.tape,hE.output,hE.size,fun k hk=>hE.block k (Nat.lt_of_lt_of_le hk l)⟩) l4) l5) l6⟩
theorem Ef (b4 b5 b6:Nat) (w:World) :
  CallsD Tryz.prog 274 #[.pointer (some ⟨b4,0,none⟩),.pointer (some ⟨b5,0,none⟩),.pointer (some ⟨b6,0,none⟩)] .returning w fun e u' w'=>e=.returned (.tuple #[])∧u'=.returning∧w'=w:=by
 refine callsD_of_wpS Tryz.func274 rfl fun c₀ cs hu=>?_
 apply wpS_seq
 apply wpS_region
 simp [wpOpsS,go_sem,recoverD,hu,Tryz.ntmps274,Exit.thenS]
 refine wpS_cond (t:=false) (by simp [Act.eval,Array.replicate]) ?_
 simp only [Bool.false_eq_true,if_false]
 refine wpS_of_wp (wp_skip ?_)
 cases c₀
 simp_all [bodyPostS,results,Tryz.results274]
theorem Kq (c:Ch) (h:Ha) (a b:Option Addr) (p q:Nat) (w:World) (h1:eY w w.heap.size a c.cells) (z1:a=none→p=0) (h2:eQ w w.heap.size b c.words) (z2:b=none→q=0)
  (HB:∀ (W:World),eY W W.heap.size a c.cells→(a=none→p=0)→eQ W W.heap.size b c.words→(b=none→q=0)→Calls Tryz.prog 236 #[.func (.func 275) #[] #[],.agg (af c (.slice a c.cells.length p) (.slice b c.words.length q)),.agg (aa h)] W fun e W'=>∃ T s,e=.panicked [{ v:=.iface T s,recovered:=false }]∧Below W.heap.size W W') :
  Calls Tryz.prog 273 #[.agg (af c (.slice a c.cells.length p) (.slice b c.words.length q)),.agg (aa h)] w fun r w'=>bV w w' nothing r:=by
 have VM:∀ (fn:Fn) (first cap:Array Value) (w:World),(Instr.makeFunc fn first cap).run Tryz.prog w=.ok (.func fn first cap) w:=fun _ _ _ _=>rfl
 have H1:=Lib.hid h1
 have H2:=Lib.hid h2
 have Z1:=Lib.hid z1
 have Z2:=Lib.hid z2
 have HH:=Lib.hid HB
 clear h1 h2 z1 z2 HB
 go_enter_defers Tryz.func273,Tryz.ntmps273
 go_wp2_with fail
 refine ax w zB fun bb=>?_
 refine (HH.out _ (aT H1 bb) Z1.out (aT H2 bb) Z2.out).mono ?_
 rintro _ w1 ⟨T,s,rfl,hE⟩
 have hB1:Below w.heap.size w w1:=bT bb hE
 have hs1:=hE.size
 simp at hs1
 have z4:hp w1 (w.heap.size+1+1)=some (.cells (af Ch.zero (.slice none 0 0) (.slice none 0 0)) 31):=by rw [nT hE (by simp)];simp [go_sem]
 have z5:hp w1 (w.heap.size+1+1+1)=some (.cells (aa Ha.zero) 49):=by rw [nT hE (by simp)];simp [go_sem]
 have z6:hp w1 (w.heap.size+1+1+1+1)=some (.cells #[.bool false] 4):=by rw [nT hE (by simp)];simp [go_sem]
 clear hE bb
 go_wp2
 refine leaves_cons (f:=274) (args:=#[.pointer (some ⟨w.heap.size+1+1,0,none⟩),.pointer (some ⟨w.heap.size+1+1+1,0,none⟩),.pointer (some ⟨w.heap.size+1+1+1+1,0,none⟩)]) (by simp) (by simp [go_sem]) ?_
 refine (GX _ _ _ T s [] _ _ _ _ z4 rfl z5 rfl z6).mono ?_
 rintro e u' w2 ⟨rfl,rfl,y4,y5,y6,hlo⟩
 have hB2:Below w.heap.size w w2:=MV hB1 (hlo w.heap.size tO tO tO tO)
 exact ⟨_,FK Tryz.results273 rfl (az Ch.zero (.slice none 0 0) (.slice none 0 0) y4) rfl (aj Ha.zero y5) rfl (Kn y6),jX _ _ _ _ _,hB2⟩
theorem rD (x:St) (c:Ch) (h:Ha) (a b:Option Addr) (p q:Nat) (w:World) (h1:eY w w.heap.size a c.cells) (z1:a=none→p=0) (h2:eQ w w.heap.size b c.words) (z2:b=none→q=0)
  (HB:∀ (W:World),eY W W.heap.size a c.cells→(a=none→p=0)→eQ W W.heap.size b c.words→(b=none→q=0)→Calls Tryz.prog 236 #[.func (.func 275) #[] #[],.agg (af c (.slice a c.cells.length p) (.slice b c.words.length q)),.agg (aa h)] W fun e W'=>bV W W' x e) :
  Calls Tryz.prog 273 #[.agg (af c (.slice a c.cells.length p) (.slice b c.words.length q)),.agg (aa h)] w fun r w'=>bV w w' x r:=by
 have VM:∀ (fn:Fn) (first cap:Array Value) (w:World),(Instr.makeFunc fn first cap).run Tryz.prog w=.ok (.func fn first cap) w:=fun _ _ _ _=>rfl
 have H1:=Lib.hid h1
 have H2:=Lib.hid h2
 have Z1:=Lib.hid z1
 have Z2:=Lib.hid z2
 have HH:=Lib.hid HB
 clear h1 h2 z1 z2 HB
 go_enter_defers Tryz.func273,Tryz.ntmps273
 go_wp2_with fail
 generalize hW0:World.alloc _ _=W0
 have hB0:Below w.heap.size w W0:=by rw [← hW0];exact zB
 have hs0:W0.heap.size=w.heap.size+1+1+1+1+1:=by rw [← hW0];simp
 have z4:hp W0 (w.heap.size+1+1)=some (.cells (af Ch.zero (.slice none 0 0) (.slice none 0 0)) 31):=by rw [← hW0];simp [go_sem]
 have z5:hp W0 (w.heap.size+1+1+1)=some (.cells (aa Ha.zero) 49):=by rw [← hW0];simp [go_sem]
 have z6:hp W0 (w.heap.size+1+1+1+1)=some (.cells #[.bool false] 4):=by rw [← hW0];simp [go_sem]
 clear hW0
 refine (HH.out W0 ((H1.out.below hB0).more hB0.size) Z1.out ((H2.out.below hB0).more hB0.size) Z2.out).mono ?_
 rintro _ w1 ⟨⟨y1,y2,rfl,Y1,Y2,F1,F2⟩,hE⟩
 replace z4:=dS z4 hE
 replace z5:=dS z5 hE
 replace z6:=dS z6 hE
 have hB1:Below w.heap.size w w1:=bT hB0 hE
 have hs1:=hE.size
 replace Y1:ag w1 w.heap.size y1 x.1.cells:=av Y1 tO
 replace Y2:ai w1 w.heap.size y2 x.1.words:=av Y2 tO
 clear hE
 obtain ⟨xa,xp,ea,_⟩:=Y1.seg
 obtain ⟨xb,xq,eb,_⟩:=Y2.seg
 subst ea eb
 have k4:okO 6 (hp w1 (w.heap.size+1+1))=true:=by rw [z4];rfl
 have q5:=ni (ys:=af x.1 (.slice xa x.1.cells.length xp) (.slice xb x.1.words.length xq)) z4 z5 (by decide)
 have k5:okO 14 (hp (bY w1 (w.heap.size+1+1) (af x.1 (.slice xa x.1.cells.length xp) (.slice xb x.1.words.length xq))) (w.heap.size+1+1+1))=true:=by rw [q5];rfl
 have q6:=ni (ys:=af x.1 (.slice xa x.1.cells.length xp) (.slice xb x.1.words.length xq)) z4 z6 (by decide)
 have r4:=ni (ys:=aa x.2.1) q5 (fH (ys:=af x.1 (.slice xa x.1.cells.length xp) (.slice xb x.1.words.length xq)) z4) (by decide)
 have r5:=fH (ys:=aa x.2.1) q5
 have r6:=ni (ys:=aa x.2.1) q5 q6 (by decide)
 obtain ⟨c6,f6,l6⟩:=bO r6
 go_wp2
 refine leaves_cons (f:=274) (args:=#[.pointer (some ⟨w.heap.size+1+1,0,none⟩),.pointer (some ⟨w.heap.size+1+1+1,0,none⟩),.pointer (some ⟨w.heap.size+1+1+1+1,0,none⟩)]) (by simp) (by simp [go_sem]) ?_
 refine (Ef _ _ _ _).mono ?_
 rintro e u' w2 ⟨rfl,rfl,rfl⟩
 exact ⟨_,FK Tryz.results273 rfl (az x.1 _ _ ((Below.heap_setCell _ _ _ _ (by simp)).trans r4)) rfl (aj x.2.1 ((Below.heap_setCell _ _ _ _ (by simp)).trans r5)) rfl (Kn (by rw [fF,r6];rfl)),⟨_,_,rfl,BI (cO (cO Y1 z4 (by decide)) q5 (by decide)) r6 (by decide),BI (cO (cO Y2 z4 (by decide)) q5 (by decide)) r6 (by decide),fun j e=>.inr (Y1.lt j e).1,fun j e=>.inr (Y2.lt j e).1⟩,by exact zB⟩
theorem BJ (F:Nat) (c:Ch) (h:Ha) (a b:Option Addr) (p q:Nat) (w:World) (h1:eY w w.heap.size a c.cells) (z1:a=none→p=0) (h2:eQ w w.heap.size b c.words) (z2:b=none→q=0) (hc:aK c=true) (hh:bW h=true) (eg:∀ args w,(callFunc F args).run Tryz.prog w=.ok (.enter F args) w) (HF:∀ (v1 v2:Value) (lo:Nat) (W:World),ag W lo v1 c.cells→ai W lo v2 c.words→lo≤W.heap.size→Calls Tryz.prog F #[.agg (af c v1 v2),.agg (aa h)] W fun e W'=>∃ T s,e=.panicked [{ v:=.iface T s,recovered:=false }]∧Below W.heap.size W W') :
  Calls Tryz.prog 236 #[.func (.func F) #[] #[],.agg (af c (.slice a c.cells.length p) (.slice b c.words.length q)),.agg (aa h)] w fun e w'=>∃ T s,e=.panicked [{ v:=.iface T s,recovered:=false }]∧Below w.heap.size w w':=by
 obtain ⟨n1,n2⟩:=jh hc
 have l1:c.cells.length≤maxLen:=by unfold maxLen;omega
 have l2:c.words.length≤maxLen:=by unfold maxLen;omega
 have m1:c.cells.length≤1099511627776:=by omega
 have m2:c.words.length≤1099511627776:=by omega
 have H1:=Lib.hid h1
 have H2:=Lib.hid h2
 have Z1:=Lib.hid z1
 have Z2:=Lib.hid z2
 clear h1 h2 z1 z2 n1 n2
 have Pg:=Lib.hid HF
 clear HF
 go_enter Tryz.func236,Tryz.ntmps236
 go_wp2_with fail;refine ax w zB fun bb=>?_;refine (iO c a b p q _ (aT H1 bb) (aT H2 bb) l1 l2).mono ?_;rintro _ w1 ⟨rfl,ah⟩;have aW:Below w.heap.size w w1:=bT bb ah;have ay:=ah.size;(try simp at ay);have zz:=q4 ah (b:=w.heap.size);(try simp [go_sem] at zz);(try clear aA bK bL aR);(try clear aH cB cK bq);(try clear bz di dz bZ);(try clear dw dV eD dJ);obtain ⟨aA,aH,bz,dw⟩:=zz;obtain ⟨bK,bL,aR⟩:=bO aA;obtain ⟨cB,cK,bq⟩:=bO aH;obtain ⟨di,dz,bZ⟩:=bO bz;obtain ⟨dV,eD,dJ⟩:=bO dw;clear ah bb
 rw [hc]
 go_wp2_with fail;refine ax w zB fun bb=>?_;refine (gV h _).mono ?_;rintro _ w2 ⟨rfl,hbw2⟩;have dE:Below w.heap.size w w2:=bT bb hbw2;have bu:=hbw2.size;(try simp at bu);have zz:=q4 hbw2 (b:=w.heap.size);(first|simp [go_sem,aA,aH,bz,dw,dJ,bZ,bq,aR] at zz|simp [go_sem] at zz|skip);(try clear aA bK bL aR);(try clear aH cB cK bq);(try clear bz di dz bZ);(try clear dw dV eD dJ);obtain ⟨aA,aH,bz,dw⟩:=zz;obtain ⟨bK,bL,aR⟩:=bO aA;obtain ⟨cB,cK,bq⟩:=bO aH;obtain ⟨di,dz,bZ⟩:=bO bz;obtain ⟨dV,eD,dJ⟩:=bO dw;clear hbw2 bb
 rw [hh]
 go_upto_region 3 with fail
 refine bI [[],[],[1],[],[0,1,2,3],[0,1,2,3,4],[0,1,2,3,4,5],[0,1,2,3,4,5],[0,1,2,3,4,5],[],[],[0,1,2,3,4,5,6,9],[0,1,2,3,4,5,7,10],[0,1,2,3,4,5,8]] [25,26,27,28,29,24,30,31,32,9,10,11] (fun l s wx=>(Below w2.heap.size w2 wx)∧(l 0=true→s 25=.func (.func F) #[] #[])∧(l 1=true→s 26=.agg (af c (.slice a c.cells.length p) (.slice b c.words.length q)))∧(l 2=true→s 27=.agg (af c (s 1001) (s 1002))∧ag wx w2.heap.size (s 1001) c.cells∧ai wx w2.heap.size (s 1002) c.words)∧(l 3=true→s 28=.agg (aa h))∧(l 4=true→False)) (by kernel_rfl) (by kernel_rfl) (by kernel_rfl) (fun s=>by (simp only [fill,fC,List.setIfInBounds_toArray,List.set_cons_zero,List.set_cons_succ];rfl)) (fun s=>⟨(Below.refl _ _).drew,nB,nB,nB,nB,nB⟩) ?_ ?_
 refine ⟨?_,?_,?_,?_,?_,?_,?_,?_,?_,?_,?_,?_,?_,?_,trivial⟩;iterate 14 (intro l s wx hl hd hn hf K hK;rotate_left)
 ·intro l s w8 hall hf
  exact ((jC hf).2 (hall 4 rfl)).elim
 ·go_simp
  refine hK.out (upd s 25 (.func (.func F) #[] #[])) _ _ (by simp [ae] <;> rfl) (kA (kX (fun _=>rfl) id) hf.out)
 ·have z:=dS dw hf.out.1
  go_simp
  refine hK.out (upd s 26 (.agg (af c (.slice a c.cells.length p) (.slice b c.words.length q)))) _ _ (by simp [ae] <;> rfl) (kB (kX (fun _=>rfl) id) hf.out)
 ·have e1:=(hf.out.2.2.1 (hd 1 rfl))
  go_simp
  go_at_call 101
  refine (rZ c a b p q _ ((H1.out.below (bT dE hf.out.1)).more (Below.size (bT dE hf.out.1))) Z1.out ((H2.out.below (bT dE hf.out.1)).more (Below.size (bT dE hf.out.1))) Z2.out m1 m2).mono ?_
  rintro _ wy ⟨⟨v1,v2,rfl,X1,X2⟩,hE⟩
  refine hK.out (upd (upd (upd s 1001 (v1)) 1002 (v2)) 27 (.agg (af c v1 v2))) _ _ (by simp [ae,e1] <;> rfl) (kX (bT hf.out.1 hE) (kB (kX (fun _=>⟨rfl,av X1 (Below.size hf.out.1),av X2 (Below.size hf.out.1)⟩) (kA (fun _=>nU (hn 4 rfl))))) hf.out)
 ·have z:=dS bz hf.out.1
  go_simp
  refine hK.out (upd s 28 (.agg (aa h))) _ _ (by simp [ae] <;> rfl) (kC (kX (fun _=>rfl) id) hf.out)
 ·have e0:=(hf.out.2.1 (hd 0 rfl))
  have e3:=(hf.out.2.2.2.2.1 (hd 3 rfl))
  obtain ⟨e2,o1,o2⟩:=(hf.out.2.2.2.1 (hd 2 rfl))
  go_simp
  refine (Pg.out _ _ w2.heap.size _ o1 o2 (Below.size hf.out.1)).mono ?_
  rintro _ wy ⟨T,sv,rfl,hE⟩
  exact ⟨rfl,T,sv,rfl,bT dE (bT hf.out.1 hE)⟩
 ·exact ((jC hf).2 (hd 4 rfl)).elim
 ·exact ((jC hf).2 (hd 4 rfl)).elim
 ·exact ((jC hf).2 (hd 4 rfl)).elim
 ·exact ((jC hf).2 (hd 4 rfl)).elim
 ·go_simp
  refine hK.out (upd s 9 (.pointer (some ⟨wx.heap.size,0,none⟩))) _ _ (by simp [ae] <;> rfl) (kX (bT hf.out.1 (aQ _ _)) (kB (kX (fun h=>(let ⟨e,X1,X2⟩:=(hf.out.2.2.2.1 h);⟨e,own_below X1 (aQ _ _),own_below X2 (aQ _ _)⟩)) id)) hf.out)
 ·go_simp
  refine hK.out (upd s 10 (.pointer (some ⟨wx.heap.size,0,none⟩))) _ _ (by simp [ae] <;> rfl) (kX (bT hf.out.1 (aQ _ _)) (kB (kX (fun h=>(let ⟨e,X1,X2⟩:=(hf.out.2.2.2.1 h);⟨e,own_below X1 (aQ _ _),own_below X2 (aQ _ _)⟩)) id)) hf.out)
 ·exact ((jC hf).2 (hd 4 rfl)).elim
 ·exact ((jC hf).2 (hd 4 rfl)).elim
 ·exact ((jC hf).2 (hd 4 rfl)).elim
theorem p8 (c:Ch) (h:Ha) (a b:Option Addr) (p q:Nat) (w:World) (h1:eY w w.heap.size a c.cells) (z1:a=none→p=0) (h2:eQ w w.heap.size b c.words) (z2:b=none→q=0) (l1:c.cells.length≤maxLen) (l2:c.words.length≤maxLen) :
  Calls Tryz.prog 273 #[.agg (af c (.slice a c.cells.length p) (.slice b c.words.length q)),.agg (aa h)] w fun r w'=>bV w w' (bU c h) r:=by
 cases hc:aK c with
 | false =>
  rw [show bU c h=nothing by simp [bU,bf,hc]]
  exact rD nothing c h a b p q w h1 z1 h2 z2 fun W g1 y1 g2 y2=>mh _ c h a b p q W g1 y1 g2 y2 l1 l2 hc
 | true =>
  cases hh:bW h with
  | false =>
   rw [show bU c h=nothing by simp [bU,bf,hh]]
   exact rD nothing c h a b p q w h1 z1 h2 z2 fun W g1 y1 g2 y2=>mi _ c h a b p q W g1 y1 g2 y2 l1 l2 hc hh
  | true =>
   rcases wm c h hc hh with ⟨x,e,HT⟩|⟨e,HT⟩
   ·rw [e]
    exact rD (kP x) c h a b p q w h1 z1 h2 z2 fun W g1 y1 g2 y2=>mg _ x c h a b p q W g1 y1 g2 y2 hc hh (fun args w=>by simp [go_sem]) HT
   ·rw [e]
    exact Kq c h a b p q w h1 z1 h2 z2 fun W g1 y1 g2 y2=>(BJ _ c h a b p q W g1 y1 g2 y2 hc hh (fun args w=>by simp [go_sem]) HT)
end
section
open Go.RowKit
attribute [local simp] aC
attribute [local go_sem ↓] aB aU aL bB aM bC aG aN au aF
theorem Eg (c:Ch) (h:Ha) (a b:Option Addr) (p q:Nat) (w:World) (h1:eY w w.heap.size a c.cells) (z1:a=none→p=0) (h2:eQ w w.heap.size b c.words) (z2:b=none→q=0) (l1:c.cells.length≤maxLen) (l2:c.words.length≤maxLen) :
  Calls Tryz.prog 158 #[.agg (af c (.slice a c.cells.length p) (.slice b c.words.length q)),.agg (aa h)] w fun r w'=>r=.returned (.bool (eZ (iH c h)))∧Below w.heap.size w w':=by
 rw [← MB]
 have hp:h.pos≤0∨(1≤h.pos∧h.pos≤8)∨(9≤h.pos∧h.pos≤15)∨(16≤h.pos∧h.pos≤22)∨(23≤h.pos∧h.pos≤25)∨26≤h.pos:=by omega
 rcases hp with hp|hp|hp|hp|hp|hp
 ·rw [rz c h (.inl tO)];exact Bb c h a b p q w hp
 ·rw [rz c h (.inl tO)];exact Bc c h a b p q w hp
 ·have e:iC c h=dM c h:=by unfold iC;rw [show dm h.pos 1 8=false by simp [dm];omega,show dm h.pos 9 15=true by simp [dm];omega];rfl
  rw [e,← oo c h _ tO (Du c h)]
  exact AY _ c h a b p q w h1 z1 h2 z2 (fun a b p q w h1 z1 h2 z2=>pg c h a b p q w h1 z1 h2 z2 l1 l2) hp
 ·have e:iC c h=dn c h:=by unfold iC;rw [show dm h.pos 1 8=false by simp [dm];omega,show dm h.pos 9 15=false by simp [dm];omega,show dm h.pos 16 22=true by simp [dm];omega];rfl
  rw [e,← oo c h _ tO (Dv c h)]
  exact AZ _ c h a b p q w h1 z1 h2 z2 (fun a b p q w h1 z1 h2 z2=>pz c h a b p q w h1 z1 h2 z2 l1 l2) hp
 ·have e:iC c h=bU c h:=by unfold iC;rw [show dm h.pos 1 8=false by simp [dm];omega,show dm h.pos 9 15=false by simp [dm];omega,show dm h.pos 16 22=false by simp [dm];omega];rfl
  rw [e,← oo c h _ tO (Dw c h)]
  exact Ba _ c h a b p q w h1 z1 h2 z2 (fun a b p q w h1 z1 h2 z2=>p8 c h a b p q w h1 z1 h2 z2 l1 l2) hp
 ·rw [rz c h (.inr hp)];exact Bd c h a b p q w hp
end
end Go.Proofs.YtffhjmepfojhnaaGreat
