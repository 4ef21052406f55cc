/-
  The program's touch of growing, every case, and its step, on hands and channels that are kept whole; lists lie in memory.
-/
import Derived.Test.YtffhjmepfojhnaaGreatS31
import Derived.Test.YtffhjmepfojhnaaGreatS26
import Derived.Laws.EntriesVeiled
import Derived.Test.YtffhjmepfojhnaaGreatS01
import Derived.Test.YtffhjmepfojhnaaGreatS32
import Derived.Test.YtffhjmepfojhnaaGreatS13
import Derived.Test.YtffhjmepfojhnaaGreatS25
import Derived.Test.YtffhjmepfojhnaaGreatS04
import Derived.Test.YtffhjmepfojhnaaGreatS30
import Derived.Test.YtffhjmepfojhnaaGreatS03
set_option maxRecDepth 100000
set_option maxHeartbeats 8000000
set_option linter.unusedSimpArgs false
set_option linter.unusedVariables false
namespace Go.Proofs.YtffhjmepfojhnaaGreat
open _root_.Go.Proofs.Tryz
section
open Go.RowKit
attribute [local simp] aP
attribute [local go_sem ↓] aQ bF aY bY aZ bZ aX bB aN aU
theorem gF {c:Ch} {h:Ha}:mD (c,h,true)=done c h:=rfl
theorem nL:mD nothing=nothing:=by simp [mD,nothing,aW,fO,Ch.zero]
theorem Kg {c:Ch} {w m:Int} (h:eY c w m=false):dM c w m=c:=by simp [dM,h]
theorem MU {h:Ha} (m:bM h=true):0≤h.nxt∧h.nxt≤2:=by
 simp only [bM,uj,Bool.and_eq_true,iP] at m
 omega
theorem G9 {h:Ha} (m:bM h=true):0≤h.grow∧h.grow≤39:=by
 simp only [bM,qy,Bool.and_eq_true,iP] at m
 omega
theorem MV {h:Ha} (m:bM h=true):0≤h.pos∧h.pos≤25:=by
 simp only [bM,oV,Bool.and_eq_true,iP] at m
 omega
theorem Kh {c:Ch} (e:aW c=true):0≤c.fin∧c.fin≤40:=by
 simp only [aW,fO,Bool.and_eq_true,iP] at e
 omega
theorem yw (c:Ch) (h:Ha) (R:aW c=true) (O:bM h=true):∃ x:St,dQ c h=mD x∧∀ (m q:Value) (lo:Nat) (W:World),aD W lo m c.cells→aG W lo q c.words→lo≤W.heap.size→Calls prog 268 #[.agg (aF c m q),.agg (aB h)] W fun r w'=>dJ W w' lo m q x r:=by
 cases G:(h.code != 2) with
 | true =>
  have M:¬ h.code=2:=by simpa using G
  have N:bJ c h 16 22 2=false:=by simp [bJ,M]
  exact ⟨nothing,by rw [nL];simp [dQ,bP,N],fun m q lo W u y _=>Bb c h m q lo W u y G⟩
 | false =>
  have M:h.code=2:=by simpa using G
  have I:=MU O
  obtain ⟨E,a1⟩:=G9 O
  have F:h.grow<c.cells.length:=by have:=(kK R).1;omega
  by_cases hr:16≤h.pos∧h.pos≤22
  ·have A:bJ c h 16 22 2=true:=by
    have:dA h.pos 16 22=true:=by simp [dA];omega
    simp [bJ,R,O,this,M]
   have z:eB h.code h.elem=true:=by
    have:=O
    simp only [bM,oV,Bool.and_eq_true,iP] at this
    have L:¬ h.pos=0:=by omega
    simp [L] at this
    exact this.1.2
   have Z:h.pos=16∨h.pos=17∨h.pos=18∨h.pos=19∨h.pos=20∨h.pos=21∨h.pos=22:=by omega
   rcases Z with hp|hp|hp|hp|hp|hp|hp
   ·have D:(h.pos == 16)=true:=by simpa using hp
    cases J:(c.cap == 0) with
    | true =>
     refine ⟨(c,dP h,true),?_,fun m q lo W u y _=>xN c h m q lo W u y J z I D G⟩
     simp only [dQ,bP,A,hp,iJ,J]
     simp [gF]
    | false =>
     cases U:(c.fin == 40) with
     | true =>
      refine ⟨(c,dP h,true),?_,fun m q lo W u y _=>xO c h m q lo W u y J U z I D G⟩
      simp only [dQ,bP,A,hp,iJ,J,U]
      simp [gF]
     | false =>
      refine ⟨({ c with fin:=c.fin+1 },{ h with grow:=c.fin,pos:=17 },true),?_,fun m q lo W u y _=>xP c h m q lo W u y (Kh R) J U D G⟩
      simp only [dQ,bP,A,hp,iJ,J,U]
      simp [gF]
   ·have D:(h.pos == 17)=true:=by simpa using hp
    by_cases J:c.sent≤h.grow
    ·refine ⟨(c,dP h,true),?_,fun m q lo W u y _=>xQ c h m q lo W u y J z I D G⟩
     simp [dQ,bP,A,hp,J,gF]
    ·refine ⟨(c,{ h with pos:=18 },true),?_,fun m q lo W u y _=>xR c h m q lo W u y J D G⟩
     simp [dQ,bP,A,hp,J,gF]
   ·have D:(h.pos == 18)=true:=by simpa using hp
    have em:dQ c h=l7 c h:=by simp [dQ,bP,A,hp]
    by_cases X:(cellAt c h.grow).s=5
    ·refine ⟨(c,h,false),?_,fun m q lo W u y _=>wW c h m q lo W u y E F X D G⟩
     rw [em]
     simp [l7,X,mD,R,O]
    have T:dQ c h=done c (mh c h):=by rw [em];simp [l7,X]
    by_cases n0:(cellAt c h.grow).s=0
    ·refine ⟨(c,{ cZ h (cellAt c h.grow) with pos:=19 },true),?_,fun m q lo W u y _=>wX c h m q lo W u y E F n0 D G⟩
     rw [T,gF]
     simp [mh,n0]
    by_cases V:(cellAt c h.grow).s=3
    ·refine ⟨(c,{ cZ h (cellAt c h.grow) with pos:=19 },true),?_,fun m q lo W u y _=>wY c h m q lo W u y E F V D G⟩
     rw [T,gF]
     simp [mh,V]
    by_cases Y:(cellAt c h.grow).s=9
    ·refine ⟨(c,{ cZ h (cellAt c h.grow) with pos:=16 },true),?_,fun m q lo W u y _=>wZ c h m q lo W u y E F Y D G⟩
     rw [T,gF]
     simp [mh,Y]
    ·refine ⟨(c,dP (cZ h (cellAt c h.grow)),true),?_,fun m q lo W u y _=>xc c h m q lo W u y E F (by simpa using X) (by simpa using n0) (by simpa using V) (by simpa using Y) z I D G⟩
     rw [T,gF]
     simp [mh,n0,V,Y]
   ·have D:(h.pos == 19)=true:=by simpa using hp
    have ep:dQ c h=nI c h:=by simp [dQ,A,hp]
    cases hs:(h.seen != 0) with
    | true =>
     refine ⟨oh c h,?_,fun m q lo W u y _=>xS c h m q lo W u y E F hs D G⟩
     have L:¬ h.seen=0:=by simpa using hs
     rw [ep]
     by_cases h3:h.seen=3
     ·simp only [nI,oh,h3,beq_self_eq_true,if_true,QC,lH]
      cases K:bQ c h.grow 3 6 (cellAt c h.grow).t with
      | true=>simp [gF]
      | false=>rw [mo K];simp [gF]
     ·simp [nI,iH,oh,h3,L,nL]
    | false =>
     have L:h.seen=0:=by simpa using hs
     have e8:dQ c h=lH c h 1 0 (dP h):=by rw [ep];simp [nI,iH,L]
     cases K:bQ c h.grow 0 1 0 with
     | true =>
      refine ⟨(bK c h.grow 0 1 0,dP h,true),?_,fun m q lo W u y _=>xU c h m q lo W u y E F hs z I K D G⟩
      rw [e8,gF]
      simp [lH,L,K]
     | false =>
      refine ⟨(bK c h.grow 0 1 0,{ h with pos:=18 },true),?_,fun m q lo W u y _=>xg c h m q lo W u y E F hs K D G⟩
      rw [e8,gF]
      simp [lH,L,K]
   ·have D:(h.pos == 20)=true:=by simpa using hp
    refine ⟨BN c { h with pos:=21 } { h with pos:=22 },?_,fun m q lo W u y hl=>AY c h m q lo W u y R hl G D⟩
    unfold BN
    cases K:eY c h.wait 1 with
    | true=>simp [dQ,bP,A,hp,ru,K,gF]
    | false=>simp [dQ,bP,A,hp,ru,K,gF,Kg K]
   ·have D:(h.pos == 21)=true:=by simpa using hp
    refine ⟨(cB c h.grow 2,dP h,true),?_,fun m q lo W u y _=>AZ c h m q lo W u y E F z I D G⟩
    simp [dQ,bP,A,hp,gF]
   ·have D:(h.pos == 22)=true:=by simpa using hp
    refine ⟨(cB c h.grow 9,{ h with pos:=16 },true),?_,fun m q lo W u y _=>Ba c h m q lo W u y E F D G⟩
    simp [dQ,bP,A,hp,gF]
  ·have N:bJ c h 16 22 2=false:=by
    have:dA h.pos 16 22=false:=by simp [dA];omega
    simp [bJ,this]
   have a0:=MV O
   have H:∀ k:Int,16≤k→k≤22→(h.pos == k)=false:=fun k h1 h2=>by simp;omega
   exact ⟨nothing,by rw [nL];simp [dQ,bP,N],fun m q lo W u y _=>xV c h m q lo W u y G (H 16 tO tO) (H 17 tO tO) (H 18 tO tO) (H 19 tO tO) (H 20 tO tO) (H 21 tO tO) (H 22 tO tO) (by simp;omega)⟩
theorem qY (c:Ch) (h:Ha) (a b:Option Addr) (p q:Nat) (w:World) (h1:fA w w a c.cells) (E:a=none→p=0) (D:fD w w b c.words) (F:b=none→q=0) (X:c.cells.length≤maxLen) (Y:c.words.length≤maxLen) :
  Calls prog 267 #[.agg (aF c (.slice a c.cells p) (.slice b c.words q)),.agg (aB h)] w fun r w'=>dE w w' (dQ c h) r:=by
 have K:∀ (w:World),fA w w a c.cells→(a=none→p=0)→fD w w b c.words→(b=none→q=0)→Calls prog 236 #[.func (.func 268) #[] #[],.agg (aF c (.slice a c.cells p) (.slice b c.words q)),.agg (aB h)] w fun r w'=>dE w w' (dQ c h) r:=by
  intro w h1 E D F
  cases G:aW c with
  | false =>
   rw [show dQ c h=nothing by simp [dQ,bP,bJ,G]]
   exact nE _ c h a b p q w h1 E D F X Y G
  | true =>
   cases J:bM h with
   | false =>
    rw [show dQ c h=nothing by simp [dQ,bP,bJ,J]]
    exact nG _ c h a b p q w h1 E D F X Y G J
   | true =>
    obtain ⟨x,e,HT⟩:=yw c h G J
    rw [e]
    exact nD _ x c h a b p q w h1 E D F G J (fun args w=>by simp [go_sem]) HT
 generalize dQ c h=x at *
 have T:=aA K
 have H1:=aA h1
 have H2:=aA D
 have Z1:=aA E
 have Z2:=aA F
 clear h1 D E F K
 have U:∀ j,(Value.slice none 0 0).ownBlock=some j→w.heap.size+1+1+1+1≤j:=fun j hj=>by cases hj
 have d2:=U
 go_enter func267,ntmps267
 go_wp2_with fail;refine aK w zB fun I=>?_;refine (T.out _ (aT H1 I) Z1.out (aT H2 I) Z2.out).mono ?_;rintro _ Z ⟨⟨y1,y2,rfl,m,u,L,M⟩,y⟩;obtain ⟨V,H,R⟩:=fH I y (b:=w);(try simp at H);(try simp [go_sem] at R);replace bX:=dW R;clear R y I
 replace m:aD Z w y1 x.1.cells:=aH m (by simp;omega)
 replace u:aG Z w y2 x.1.words:=aH u (by simp;omega)
 obtain ⟨⟨z,A⟩,N,O⟩:=mW (w:=w) (w+1+1+1+1) L M U d2;obtain ⟨ya,yp,rfl,_⟩:=m.seg;obtain ⟨yb,yq,rfl,_⟩:=u.seg
 go_wp2
 refine rE results267 rfl (aO x.1 (.slice ya x.1.cells yp) (.slice yb x.1.words yq) tY) rfl (aJ x.2.1 tY) ⟨⟨_,_,rfl,?_,?_,N,O⟩,by exact zB⟩
 ·exact zP m m z
 ·exact zP u u A
end
section
open Go.RowKit
theorem ic.at {w W:World} {x:Wo} {a b d e:Option Addr} (h:ic w w x a b d e) (m:Below w w W):ic W W x a b d e:=⟨(h.1.below m).more m.size,(h.2.1.below m).more m.size,(h.2.2.1.below m).more m.size,(h.2.2.2.below m).more m.size⟩
attribute [local simp] aP
attribute [local go_sem ↓] aQ aY aZ gK aN
attribute [local go_sem] fF
theorem MW (x:Wo) (who H F:Int) (a b d e:Option Addr) (p q r s:Nat) (w:World) (h:ic w w x a b d e) (m:jk x) (G:bC x=false) :
  Calls prog 13 #[kZ x a b d e p q r s,.int .i64 who,.agg #[.int .i64 H,.int .i64 F]] w fun r w'=>fE w w' Wo.zero (.int .i64 3) r:=by
 have E:=aA h
 clear h
 go_enter func13,ntmps13
 go_wp2_with fail;refine aK w zB fun z=>?_;refine (fU x a b d e p q r s _ (E.out.at z) m).mono ?_;rintro _ J ⟨rfl,u⟩;obtain ⟨D,y,A⟩:=uW z u (b:=w);(try simp at y);(try simp [go_sem] at A);replace I:=ql A;clear A u z
 rw [G]
 go_wp2
 refine bodyPost_ret (v:=.tuple #[.agg #[.int .i64 0,.int .i64 0,.int .i64 0,.int .i64 0,.slice none 0 0,.slice none 0 0,.slice none 0 0,.slice none 0 0,.int .i64 0],.int .i64 3]) (by simp [results,results13,go_sem, *]) rfl ⟨⟨_,_,_,_,rfl,jg _ _⟩,by exact zB⟩
theorem MX (x:Wo) (who J G:Int) (a b d e:Option Addr) (p q r s:Nat) (w:World) (h:ic w w x a b d e) (m:jk x) (H:bC x=true) (I:eH x.hands who=false) :
  Calls prog 13 #[kZ x a b d e p q r s,.int .i64 who,.agg #[.int .i64 J,.int .i64 G]] w fun r w'=>fE w w' Wo.zero (.int .i64 3) r:=by
 have E:=aA h
 have F:x.hands.length≤1099511627776:=by have:=m.2.2.1;omega
 clear h
 go_enter func13,ntmps13
 go_wp2_with fail;refine aK w zB fun z=>?_;refine (fU x a b d e p q r s _ (E.out.at z) m).mono ?_;rintro _ L ⟨rfl,u⟩;obtain ⟨D,y,A⟩:=uW z u (b:=w);(try simp at y);(try simp [go_sem] at A);replace K:=ql A;clear A u z
 rw [H]
 go_wp2_with fail
 refine (jV x.hands who w d r _ (by simp [*]) F).mono ?_
 rintro _ _ ⟨rfl,rfl⟩
 rw [I]
 go_wp2
 refine bodyPost_ret (v:=.tuple #[.agg #[.int .i64 0,.int .i64 0,.int .i64 0,.int .i64 0,.slice none 0 0,.slice none 0 0,.slice none 0 0,.slice none 0 0,.int .i64 0],.int .i64 3]) (by simp [results,results13,go_sem, *]) rfl ⟨⟨_,_,_,_,rfl,jg _ _⟩,by exact zB⟩
attribute [local go_sem] jL sw nZ
theorem MZ (x:Wo) (i:Nat) (kk ee:Int) (a b d e:Option Addr) (p q r s:Nat) (w:World) (h:ic w w x a b d e) (z:jl x a b d e p q r s) (m:jk x) (hk:bC x=true) (hi:i<x.hands.length) :
  Calls prog 13 #[kZ x a b d e p q r s,.int .i64 i,.agg #[.int .i64 kk,.int .i64 ee]] w fun r w'=>fE w w' (asked x i kk ee).1 (.int .i64 (asked x i kk ee).2) r:=by
 have HW:=aA h
 have HZ:=aA z
 have M3:x.hands.length≤1099511627776:=by have:=m.2.2.1;omega
 obtain ⟨b3,o3,rfl,b6,ao⟩:∃ b o,d=some ⟨b,o,none⟩∧b<w.heap.size∧Hid (∀ i j,i<x.hands.length→j<14→w.cell? ⟨b,o+i*14+j,none⟩=some (dY x.hands i j)):=by
  rcases h.2.2.1 with h0|h0
  ·omega
  ·exact h0
 clear h z
 have ht:eH x.hands i=true:=by simp [eH,dA];omega
 have HA:=aA (show asked x i kk ee=(if (called (aL x i) kk ee).2 != 0 then (x,(called (aL x i) kk ee).2) else if x.now == 20000 then (x,1) else ({ gY x i { (called (aL x i) kk ee).1 with beg:=x.now+1 } with now:=x.now+1 },0)) by simp [asked,hk,cK,ht])
 obtain ⟨Y,hY⟩:∃ Y,Y=asked x i kk ee:=⟨_,rfl⟩
 rw [← hY] at HA ⊢
 clear hY
 have a8:∀ W:World,hp W b3=hp w b3→(jU (.pointer (some ⟨b3,o3+i*14,none⟩))).run prog W=.ok (.agg (aB (aL x i))) W:=fun W e=>jh _ fun j hj=>by rw [show (aB (aL x i)).getD j (.int .i64 0)=dY x.hands i j by simp [dY,aL],← ao.out i j hi hj];exact World.cell?_of_block e
 obtain ⟨h0,ar⟩:∃ h0,h0=aL x i:=⟨_,rfl⟩
 rw [← ar] at a8 HA
 have am:=a8
 clear a8 ao ar
 obtain ⟨H1,cc,af⟩:∃ H1 cc,called h0 kk ee=(H1,cc):=⟨_,_,rfl⟩
 rw [af] at HA
 have b2:=aA af
 clear af
 have bn:(0:Int)≤(i:Int):=by omega
 have bo:(i:Int)<(x.hands.length:Int):=by omega
 have bh:=tT hk
 go_enter func13,ntmps13
 go_wp2_with fail;refine aK w zB fun bb=>?_;refine (fU x a b _ e p q r s _ (HW.out.at bb) m).mono ?_;rintro _ w1 ⟨rfl,T⟩;have be:Below w w w1:=bT bb T;have av:=T.size;(try simp at av);have zz:=And.intro (hQ T (b:=w+1+1)) <| And.intro (hQ T (b:=w+1)) <| hQ T (b:=w);(try simp [go_sem] at zz);(try clear u H G X);(try clear F a6 a4 a5);(try clear N a3 a2 a0);obtain ⟨u,F,N⟩:=zz;obtain ⟨H,G,X⟩:=bO u;obtain ⟨a6,a4,a5⟩:=bO F;obtain ⟨a3,a2,a0⟩:=bO N;clear T bb
 rw [hk]
 go_wp2_with fail
 refine (jV x.hands i w (some ⟨b3,o3,none⟩) r _ (by simp [*]) M3).mono ?_
 rintro _ _ ⟨rfl,rfl⟩
 rw [ht]
 go_wp2_with fail;refine aK w zB fun bb=>?_;refine (oo x a b _ e p q r s _ (HW.out.at bb) HZ.out m).mono ?_;rintro _ w3 ⟨⟨B,v1,v2,v3,v4,rfl,bc,E,o1,o2,Z,o4⟩,U⟩;have ac:Below w w w3:=bT bb U;have aw:=U.size;(try simp at aw);have zz:=And.intro (hQ U (b:=w+1+1)) <| And.intro (hQ U (b:=w+1)) <| hQ U (b:=w);(first|simp [go_sem,u,F,N,a0,a5,X] at zz|simp [go_sem] at zz|skip);(try clear u H G X);(try clear F a6 a4 a5);(try clear N a3 a2 a0);obtain ⟨u,F,N⟩:=zz;obtain ⟨H,G,X⟩:=bO u;obtain ⟨a6,a4,a5⟩:=bO F;obtain ⟨a3,a2,a0⟩:=bO N;clear U bb
 obtain ⟨va,vc,rfl,_⟩:=aD.seg o1
 obtain ⟨vb,vd,rfl,_⟩:=aG.seg o2
 obtain ⟨g,vg,rfl,bg,lg,ap,aq⟩:=cO.open1 Z hi
 obtain ⟨vh,vi,rfl,_⟩:=dV.seg o4
 have ay:B<w3.heap.size:=(bO E).2.2
 have bl:g≠B:=bH Z E (by decide) g rfl
 go_wp2_with fail
 refine iT [[],[0],[],[0,1,2],[0,1,2,3],[],[0,1,2,3,4,5],[0,1,2,3,4,5,6],qB [],qB [],[],qB [8,10],qB [9]] [23,24,25,26,27,28,29,22,30,31,9,10] (fun l s wx=>(Below w3 w3 wx)∧(l 0=true→s 23=.pointer (some ⟨w,6,none⟩))∧(l 1=true→s 24=.slice (some ⟨b3,o3,none⟩) x.hands r)∧(l 2=true→s 25=.int .i64 i)∧(l 3=true→s 26=.pointer (some ⟨b3,o3+i*14,none⟩))∧(l 4=true→s 27=.agg (aB h0))∧(l 5=true→s 28=.agg #[.int .i64 kk,.int .i64 ee])∧(l 6=true→s 29=.tuple #[.agg (aB H1),.int .i64 cc])∧(l 7=true→s 22=.tuple #[.agg (aB H1),.int .i64 cc])∧(l 8=true→s 30=.agg (aB H1))∧(l 9=true→s 31=.int .i64 cc)∧(l 10=true→iI wx (s 9) w3 (cond (l 11) (aB H1) (aB Ha.zero)) 49)∧(l 12=true→s 10=.int .i64 cc)) (fun s=>⟨(Below.refl _ _).drew,nB,nB,nB,nB,nB,nB,nB,nB,nB,nB,nB,nB⟩) ?_ ?_
 refine ⟨?_,?_,?_,?_,?_,?_,?_,?_,?_,?_,?_,?_,?_,trivial⟩;iterate 13 (intro l s wx hl V hn A K O;rotate_left)
 ·intro l s w8 J A
  have R:=A.1
  obtain ⟨gh,ea,bm,D⟩:=((jD A).2.2.2.1 (J 10 rfl))
  have ec:=((jC (jD A)) (J 12 rfl))
  rw [J 11 rfl] at D
  dsimp only [cond] at D
  simp only [ea,ec]
  clear ea ec A J
  have bi:Below w w w8:=bT ac R
  replace u:=eP u R
  replace E:=eP E R
  replace o1:=own_below o1 R
  replace o2:=own_below o2 R
  replace Z:=own_below Z R
  replace o4:=own_below o4 R
  have ai:hp w8 g=hp w3 g:=R.block g lg
  have bp:=R.size
  have bt:B<w3.heap.size:=by have:=(bO E).2.2;exact ay
  replace N:=eP N R
  clear a3 a6 H a2 a4 G a0 F am
  obtain ⟨a3,a2,a0⟩:=bO N
  obtain ⟨ah,ak,az⟩:=bO E
  obtain ⟨b1,al,b0⟩:=bO D
  obtain ⟨H,G,aa⟩:=bO u
  simp only [iA] at ah
  have n1:B≠w.heap.size+1+1:=by omega
  have n2:w.heap.size+1+1≠B:=by omega
  have n3:gh≠w.heap.size+1+1:=by omega
  have n4:w.heap.size+1+1≠gh:=by omega
  have n5:gh≠B:=by omega
  have n6:B≠gh:=by omega
  have l1:w.heap.size≤B:=by omega
  by_cases hc:cc=0
  ·subst hc
   by_cases hn:x.now=20000
   ·obtain rfl:Y=(x,1):=by rw [HA.out];simp [hn]
    have b7:(x.now == 20000)=true:=by simp [hn]
    clear HA hn
    go_wp2
    refine bodyPost_ret (v:=.tuple #[.agg #[x.ch.cap,x.ch.sent,x.ch.got,x.ch.fin,.slice va x.ch.cells vc,.slice vb x.ch.words vd,.slice (some ⟨g,0,none⟩) x.hands vg,.slice vh x.deals vi,x.now],.int .i64 1]) (by simp [results,results13,go_sem, *]) rfl ⟨⟨_,_,_,_,rfl,aH (lo:=w1) (zW o1 u) tO,aH (lo:=w1) (zW o2 u) tO,aH (lo:=w1) (zW Z u) tO,aH (lo:=w1) (zW o4 u) tO⟩,by exact zB⟩
   ·obtain ⟨y,hy⟩:∃ y,Hid (y=({ H1 with beg:=x.now+1 }:Ha)):=⟨_,rfl⟩
    obtain rfl:Y=({ gY x i y with now:=x.now+1 },0):=by rw [HA.out,hy.out];simp [hn]
    have b7:(x.now == 20000)=false:=by simp [hn]
    clear HA
    have ad:=fun j hj=>(World.cell?_of_block (a:=⟨g,i*14+j,none⟩) ai).trans (ap j hj)
    have ae:=fun o=>(World.frozen?_of_block (a:=⟨g,o,none⟩) ai).trans (aq o)
    go_wp2_with fail
    have ax:B<gh:=by omega
    have bu:g<gh:=by omega
    have b9:w.heap.size+1+1<B:=by omega
    have ba:w.heap.size+1+1<gh:=by omega
    generalize M:World.setCell _ _ _=wc
    have aj:hp wc g=hp w8 g:=by rw [← M];exact (Below.heap_setCell _ _ _ _ (by (try dsimp only) <;> omega)).trans (Below.heap_setCell _ _ _ _ (by (try dsimp only) <;> omega))
    have a9:hp wc B=some (.cells #[x.ch.cap,x.ch.sent,x.ch.got,x.ch.fin,.slice va x.ch.cells vc,.slice vb x.ch.words vd,.slice (some ⟨g,0,none⟩) x.hands vg,.slice vh x.deals vi,.int .i64 (x.now+1)] 35):=by rw [← M];simp [go_sem,E,ax,iA]
    have ab:hp wc gh=some (.cells (aB y) 49):=by rw [← M,hy.out];simp [go_sem,D,ax]
    have a1:hp wc (w+1+1)=some (.cells #[.int .i64 0,.int .i64 0,.int .i64 0,.int .i64 0,.slice none 0 0,.slice none 0 0,.slice none 0 0,.slice none 0 0,.int .i64 0] 35):=by rw [← M];simp [go_sem,u,b9,ba]
    have b5:Below w w wc:=by rw [← M];exact zB
    have bq:wc=w8.heap.size:=by rw [← M];simp
    have q1:wc.ownsRow w1 93 3 (.slice va x.ch.cells vc) x.ch.cells (jB x.ch.cells):=by rw [← M];exact aI (aI o1 (fun I=>bH o1 E (by decide) _ I rfl) _) (fun I=>bH o1 D (by decide) _ I rfl) _
    have q2:wc.ownsRow w1 2 1 (.slice vb x.ch.words vd) x.ch.words (ints x.ch.words):=by rw [← M];exact aI (aI o2 (fun I=>bH o2 E (by decide) _ I rfl) _) (fun I=>bH o2 D (by decide) _ I rfl) _
    have q3:wc.ownsRow w1 49 14 (.slice (some ⟨g,0,none⟩) x.hands vg) x.hands (jF x.hands):=by rw [← M];exact aI (aI Z (fun I=>bH Z E (by decide) _ I rfl) _) (fun I=>by simp [Value.ownBlock] at I;omega) _
    have q4:wc.ownsRow w1 44 7 (.slice vh x.deals vi) x.deals (kJ x.deals):=by rw [← M];exact aI (aI o4 (fun I=>bH o4 E (by decide) _ I rfl) _) (fun I=>bH o4 D (by decide) _ I rfl) _
    clear M o1 o2 Z o4 E D u N ah b1 H a3 ak al G a2 a0 aa az b0
    have an:∀ (W:World) (y:Ha),hp W g=hp wc g→(pY (.pointer (some ⟨g,i*14,none⟩)) (.agg (aB y))).run prog W=.ok () (ig W g (i*14) y):=fun W y e=>qp y (fun j hj=>⟨_,(World.cell?_of_block (show W.heap[g]?=w8.heap[g]? from e.trans aj)).trans (ad j hj)⟩) (fun j=>(World.frozen?_of_block (show W.heap[g]?=w8.heap[g]? from e.trans aj)).trans (ae j))
    have b8:g<wc.heap.size:=by omega
    have E:=a9
    have D:=ab
    have e1:=gI (g:=g) (dD q1 q3 (by decide)) rfl
    have e2:=gI (g:=g) (dD q2 q3 (by decide)) rfl
    have e4:=gI (g:=g) (dD q4 q3 (by decide)) rfl
    clear ab ad ae ai aj ap aq
    refine iT [[],[0],[0,1],[0,1,2],[],[],[0,1,2,3,4],[0,1,2,3,4,5,6]] [57,58,59,60,61,62,63] (fun l s wx=>(l 7=false→Below wc wc wx)∧(l 0=true→s 57=.pointer (some ⟨B,0,none⟩))∧(l 1=true→s 58=.pointer (some ⟨B,0,none⟩))∧(l 2=true→s 59=.pointer (some ⟨B,6,none⟩))∧(l 3=true→s 60=.slice (some ⟨g,0,none⟩) x.hands vg)∧(l 4=true→s 61=.int .i64 i)∧(l 5=true→s 62=.agg (aB y))∧(l 6=true→s 63=.pointer (some ⟨g,i*14,none⟩))∧(l 7=true→∃ W,Below wc wc W∧wx=ig W g (i*14) y)) (fun s=>⟨fun _=>(Below.refl _ _).drew,nB,nB,nB,nB,nB,nB,nB,nB⟩) ?_ ?_
    refine ⟨?_,?_,?_,?_,?_,?_,?_,?_,trivial⟩;iterate 8 (intro l s wx hl V hn A K O;rotate_left)
    ·intro l s w9 J A
     obtain ⟨wd,L,rfl⟩:=(jD A) (J 7 rfl)
     clear A J
     have br:=L.size
     generalize ag:ig wd g (i*14) y=we
     have gr:=fM wd g (i*14) y
     rw [ag] at gr
     have b4:=(bE gr (bO (eP a9 L)).2.2 (by simp;omega)).trans (eP a9 L)
     have a7:=(bE gr (bO (eP a1 L)).2.2 (by simp;omega)).trans (eP a1 L)
     have r1:=World.ownsRow.kept (own_below q1 L) gr (.inr e1)
     have r2:=World.ownsRow.kept (own_below q2 L) gr (.inr e2)
     have r4:=World.ownsRow.kept (own_below q4 L) gr (.inr e4)
     have r3:=cO.set (own_below q3 L) hi y
     rw [ag] at r3
     have bj:Below w w we:=iN (bT b5 L) gr tO (fun k hk=>by simp at hk;omega)
     obtain ⟨ah,ak,az⟩:=bO b4
     obtain ⟨a3,a2,a0⟩:=bO a7
     clear ag gr an q1 q2 q3 q4 E D a9 a1 L
     go_wp2
     refine bodyPost_ret (v:=.tuple #[.agg #[x.ch.cap,x.ch.sent,x.ch.got,x.ch.fin,.slice va x.ch.cells vc,.slice vb x.ch.words vd,.slice (some ⟨g,0,none⟩) x.hands vg,.slice vh x.deals vi,.int .i64 (x.now+1)],.int .i64 0]) (by simp [results,results13,go_sem, *]) rfl ⟨⟨_,_,_,_,rfl,aH (lo:=w1) (by (show aD _ _ _ x.ch.cells);(repeat (first|with_reducible exact r1|((with_reducible refine aI ?_ ?_ _);rotate_left;(focus exact fun I=>bH r1 a7 (by decide) _ I rfl))))) tO,aH (lo:=w1) (by (show aG _ _ _ x.ch.words);(repeat (first|with_reducible exact r2|((with_reducible refine aI ?_ ?_ _);rotate_left;(focus exact fun I=>bH r2 a7 (by decide) _ I rfl))))) tO,aH (lo:=w1) (by (show cO _ _ _ (x.hands.set i y));(repeat (first|with_reducible exact r3|((with_reducible refine aI ?_ ?_ _);rotate_left;(focus exact fun I=>bH r3 a7 (by decide) _ I rfl))))) tO,aH (lo:=w1) (by (show dV _ _ _ x.deals);(repeat (first|with_reducible exact r4|((with_reducible refine aI ?_ ?_ _);rotate_left;(focus exact fun I=>bH r4 a7 (by decide) _ I rfl))))) tO⟩,by exact zB⟩
    ·go_simp
     refine O.out (upd s 57 (.pointer (some ⟨B,0,none⟩))) _ _ (by simp [aC] <;> rfl) (kA (kX (fun _=>rfl) id) A.out)
    ·have e0:=(A.out.2.1 (V 0 rfl))
     go_simp
     refine O.out (upd s 58 (.pointer (some ⟨B,0,none⟩))) _ _ (by simp [aC,e0] <;> rfl) (kB (kX (fun _=>rfl) id) A.out)
    ·have e1:=(A.out.2.2.1 (V 1 rfl))
     go_simp
     refine O.out (upd s 59 (.pointer (some ⟨B,6,none⟩))) _ _ (by simp [aC,e1] <;> rfl) (kB (kA (kX (fun _=>rfl) id)) A.out)
    ·have e2:=(A.out.2.2.2.1 (V 2 rfl))
     have z:=(bO (eP E (A.out.1 (hn 7 rfl)))).1 6
     go_simp
     refine O.out (upd s 60 (.slice (some ⟨g,0,none⟩) x.hands vg)) _ _ (by simp [aC,e2] <;> rfl) (kC (kX (fun _=>rfl) id) A.out)
    ·go_simp
     refine O.out (upd s 61 (.int .i64 i)) _ _ (by simp [aC] <;> rfl) (kC (kA (kX (fun _=>rfl) id)) A.out)
    ·have z:=eP D (A.out.1 (hn 7 rfl))
     go_simp
     refine O.out (upd s 62 (.agg (aB y))) _ _ (by simp [aC] <;> rfl) (kC (kB (kX (fun _=>rfl) id)) A.out)
    ·have e3:=(A.out.2.2.2.2.1 (V 3 rfl))
     have e4:=((jC A.out).2.1 (V 4 rfl))
     go_simp
     refine O.out (upd s 63 (.pointer (some ⟨g,i*14,none⟩))) _ _ (by simp [aC,e3,e4] <;> rfl) (kC (kB (kA (kX (fun _=>rfl) id))) A.out)
    ·have e5:=((jC A.out).2.2.1 (V 5 rfl))
     have e6:=((jC A.out).2.2.2.1 (V 6 rfl))
     have hS:=an wx y ((A.out.1 hl).block g b8)
     go_simp
     refine O.out (s) _ _ (by simp [aC,e5,e6] <;> rfl) (kX (fun h9=>nU h9 (show upd l 7 true 7=true from rfl)) (kC (kB (kA (fun _=>fun _=>⟨wx,A.out.1 hl,rfl⟩)))) A.out)
  ·obtain rfl:Y=(x,cc):=by rw [HA.out];simp [hc]
   have bk:(cc == 0)=false:=by simp [hc]
   have bf:(cc != 0)=true:=by simp [hc]
   clear HA
   go_wp2
   refine bodyPost_ret (v:=.tuple #[.agg #[x.ch.cap,x.ch.sent,x.ch.got,x.ch.fin,.slice va x.ch.cells vc,.slice vb x.ch.words vd,.slice (some ⟨g,0,none⟩) x.hands vg,.slice vh x.deals vi,x.now],.int .i64 cc]) (by simp [results,results13,go_sem, *]) rfl ⟨⟨_,_,_,_,rfl,aH (lo:=w1) (zW o1 u) tO,aH (lo:=w1) (zW o2 u) tO,aH (lo:=w1) (zW Z u) tO,aH (lo:=w1) (zW o4 u) tO⟩,by exact zB⟩
 ·go_simp
  refine O.out (upd s 23 (.pointer (some ⟨w,6,none⟩))) _ _ (by simp [aC] <;> rfl) (kA (kX (fun _=>rfl) id) A.out)
 ·have e0:=(A.out.2.1 (V 0 rfl))
  have z6:=(bO (eP N A.out.1)).1 6
  go_simp
  refine O.out (upd s 24 (.slice (some ⟨b3,o3,none⟩) x.hands r)) _ _ (by simp [aC,e0] <;> rfl) (kB (kX (fun _=>rfl) id) A.out)
 ·go_simp
  refine O.out (upd s 25 (.int .i64 i)) _ _ (by simp [aC] <;> rfl) (kB (kA (kX (fun _=>rfl) id)) A.out)
 ·have e1:=(A.out.2.2.1 (V 1 rfl))
  have e2:=(A.out.2.2.2.1 (V 2 rfl))
  go_simp
  refine O.out (upd s 26 (.pointer (some ⟨b3,o3+i*14,none⟩))) _ _ (by simp [aC,e1,e2] <;> rfl) (kC (kX (fun _=>rfl) id) A.out)
 ·have e3:=(A.out.2.2.2.2.1 (V 3 rfl))
  have hL:=am wx ((bT ac A.out.1).block b3 b6)
  go_simp
  refine O.out (upd s 27 (.agg (aB h0))) _ _ (by simp [aC,e3] <;> rfl) (kC (kA (kX (fun _=>rfl) id)) A.out)
 ·have z0:=(bO (eP F A.out.1)).1 0
  have z1:=(bO (eP F A.out.1)).1 1
  go_simp
  refine O.out (upd s 28 (.agg #[.int .i64 kk,.int .i64 ee])) _ _ (by simp [aC] <;> rfl) (kC (kB (kX (fun _=>rfl) id)) A.out)
 ·have e4:=((jC A.out).2.1 (V 4 rfl))
  have e5:=((jC A.out).2.2.1 (V 5 rfl))
  go_simp
  go_at_call 52
  refine (wu h0 kk ee _).mono ?_
  rintro _ wy ⟨rfl,hE⟩
  rw [b2.out]
  refine O.out (upd s 29 (.tuple #[.agg (aB H1),.int .i64 cc])) _ _ (by simp [aC,e4,e5] <;> rfl) (kX (bT A.out.1 hE) (kC (kB (kX (fun _=>rfl) (kX (nU (hn 7 rfl)) (kX (nU (hn 8 rfl)) (kX (nU (hn 9 rfl)) (kX (fun h=>iI.below ((jD A.out).2.2.2.1 h) hE) (fun _=>nU (hn 12 rfl))))))))) A.out)
 ·have e6:=((jC A.out).2.2.2.1 (V 6 rfl))
  go_simp
  refine O.out (upd s 22 (.tuple #[.agg (aB H1),.int .i64 cc])) _ _ (by simp [aC,e6] <;> rfl) (kD (kX (fun _=>rfl) id) A.out)
 ·have e7:=((jD A.out).1 (V 7 rfl))
  go_simp
  refine O.out (upd s 30 (.agg (aB H1))) _ _ (by simp [aC,e7] <;> rfl) (kD (kA (kX (fun _=>rfl) id)) A.out)
 ·have e7:=((jD A.out).1 (V 7 rfl))
  go_simp
  refine O.out (upd s 31 (.int .i64 cc)) _ _ (by simp [aC,e7] <;> rfl) (kD (kB (kX (fun _=>rfl) id)) A.out)
 ·go_simp
  refine O.out (upd s 9 (.pointer (some ⟨wx,0,none⟩))) _ _ (by simp [aC] <;> rfl) (kX (bT A.out.1 (aS _ _)) (kD (kB (kX (fun _=>by rw [show upd l 10 true 11=false from hn 11 rfl];exact iI.new (Below.size A.out.1)) id))) A.out)
 ·have e8:=((jD A.out).2.1 (V 8 rfl))
  obtain ⟨bb,eb,au,zb⟩:=((jD A.out).2.2.2.1 (V 10 rfl))
  rw [hl] at zb
  dsimp only [cond] at zb
  have zn:hp (dF wx bb (aB H1)) bb=some (.cells (aB H1) 49):=ib zb
  go_simp
  refine O.out (s) _ _ (by simp [aC,eb,e8] <;> rfl) (kX (BK A.out.1 au) (kD (kB (kX (fun _=>⟨bb,eb,au,zn⟩) id))) A.out)
 ·have I:=((jD A.out).2.2.1 (V 9 rfl))
  go_simp
  refine O.out (upd s 10 (.int .i64 cc)) _ _ (by simp [aC,I] <;> rfl) (kD (kC (fun _=>fun _=>rfl)) A.out)
theorem rO (x:Wo) (who y u:Int) (a b d e:Option Addr) (p q r s:Nat) (w:World) (h:ic w w x a b d e) (z:jl x a b d e p q r s) (m:jk x) :
  Calls prog 13 #[kZ x a b d e p q r s,.int .i64 who,.agg #[.int .i64 y,.int .i64 u]] w fun r w'=>fE w w' (asked x who y u).1 (.int .i64 (asked x who y u).2) r:=by
 cases A:bC x with
 | false =>
  rw [show asked x who y u=(Wo.zero,3) by simp [asked,A]]
  exact MW x who y u a b d e p q r s w h m A
 | true =>
  cases D:eH x.hands who with
  | false =>
   rw [show asked x who y u=(Wo.zero,3) by simp [asked,A,cK,D]]
   exact MX x who y u a b d e p q r s w h m A D
  | true =>
   obtain ⟨i,rfl⟩:∃ i:Nat,who=(i:Int):=⟨who.toNat,by simp [eH,dA] at D;omega⟩
   exact MZ x i y u a b d e p q r s w h z m A (by simp [eH,dA] at D;omega)
end
section
open Go.RowKit
attribute [local simp] aP
attribute [local go_sem ↓] aQ aY aZ gK aN
attribute [local go_sem] fF
theorem uN {x:Wo} {k:Nat} (h:ma x k=true) (e:((aL x (k:Int)).pos == 0 || pz x k)=true):ma x (k+1)=true:=by simp [ma,h,e]
theorem xm {x:Wo} {k:Nat} (e:((aL x (k:Int)).pos == 0 || pz x k)=false):∀ n,k<n→ma x n=false
 | 0,h=>absurd h (Nat.not_lt_zero _)
 | n+1,h=>by
  by_cases m:k=n
  ·subst m;simp [ma,e]
  ·simp [ma,xm e n tO]
theorem sM (x:Wo) (a b d e:Option Addr) (p q r s:Nat) (w:World) (h1:fA w w a x.ch.cells) (z1:a=none→p=0) (h2:fD w w b x.ch.words) (z2:b=none→q=0) (h3:pF w w d x.hands) (h4:pG w w e x.deals) (m1:x.ch.cells.length≤1099511627776) (m3:x.hands.length≤1099511627776) (m4:x.deals.length≤1099511627776) :
  Calls prog 33 #[kZ x a b d e p q r s] w fun r' w'=>r'=.returned (.bool (quietIn x))∧Below w w w':=by
 have H1:=aA h1
 have H2:=aA h2
 have Z:=aA h3
 have H4:=aA h4
 have Z1:=aA z1
 have Z2:=aA z2
 clear h1 h2 h3 h4 z1 z2
 cases X:bC x with
 | false =>
  have e0:quietIn x=false:=by simp [quietIn,X]
  rw [e0]
  go_enter func33,ntmps33
  go_wp2_with fail;refine aK w zB fun A=>?_;refine (fG x a b d e p q r s _ (aT H1 A) (aT H2 A) (aT Z A) (aT H4 A) m3 m4).mono ?_;rintro _ w1 ⟨rfl,y⟩;have T:Below w w w1:=bT A y;have J:=y.size;(try simp at J);have F:=hQ y (b:=w);(try simp [go_sem] at F);(try clear m E D z);have m:=F;clear F;obtain ⟨E,D,z⟩:=bO m;clear y A
  rw [X]
  go_wp2
  go_ret
  exact ⟨rfl,by exact zB⟩
 | true =>
  have e0:quietIn x=ma x x.hands:=by simp [quietIn,X]
  rw [e0]
  go_enter func33,ntmps33
  go_wp2_with fail;refine aK w zB fun A=>?_;refine (fG x a b d e p q r s _ (aT H1 A) (aT H2 A) (aT Z A) (aT H4 A) m3 m4).mono ?_;rintro _ w1 ⟨rfl,y⟩;have T:Below w w w1:=bT A y;have J:=y.size;(try simp at J);have F:=hQ y (b:=w);(try simp [go_sem] at F);(try clear m E D z);have m:=F;clear F;obtain ⟨E,D,z⟩:=bO m;clear y A
  rw [X]
  have a0:Below w w w1:=by exact zB
  go_wp2
  go_loopw [3] (fun i wr=>∃ k:Nat,k≤x.hands.length∧i=.int .i64 k∧Hid (ma x k=true)∧hp wr w=some (.cells #[x.ch.cap,x.ch.sent,x.ch.got,x.ch.fin,.slice a x.ch.cells p,.slice b x.ch.words q,.slice d x.hands r,.slice e x.deals s,x.now] 35)∧w<wr.heap.size∧Below w w wr) (fun i _=>x.hands.length - (intOf i).toNat)
  case atStart=>exact ⟨0,Nat.zero_le _,rfl,rfl,by simp [go_sem, *],by omega,a0⟩
  case round =>
   obtain ⟨k,X,rfl,I,m,z,G⟩:=hrel
   clear E D
   have E:∀ o,wr.cell? ⟨w,o,none⟩=_:=fun o=>cell_of_row wr w o _ _ _ m
   have D:∀ o,wr.frozen? ⟨w,o,none⟩=false:=dH m
   by_cases N:k<x.hands.length
   ·have a2:(0:Int)≤(k:Int):=by omega
    have a3:(k:Int)<(x.hands.length:Int):=by omega
    have PP:=qQ x k N a b d e p q r s wr (H1.out.below G |>.more G.size) Z1.out (H2.out.below G |>.more G.size) Z2.out (Z.out.below G |>.more G.size) (H4.out.below G |>.more G.size) m1 m3 m4
    obtain ⟨b3,o3,rfl,a1,V⟩:∃ b o,d=some ⟨b,o,none⟩∧b<w.heap.size∧(∀ i j,i<x.hands.length→j<14→w.cell? ⟨b,o+i*14+j,none⟩=some (dY x.hands i j)):=by
     rcases Z.out with h0|h0
     ·omega
     ·exact h0
    have c0:wr.cell? ⟨b3,o3+k*14,none⟩=some (.int .i64 (aL x (k:Int)).pos):=(G.cell (p:=⟨b3,o3+k*14,none⟩) a1).trans ((V k 0 N tO).trans (by simp [dY,aL,aB,Array.getD]))
    clear V
    by_cases Y:(aL x (k:Int)).pos=0
    ·go_wp2
     go_roundw
     case rel=>exact ⟨k+1,by omega,by go_num,uN I.out (by simp [Y]),m,by omega,G⟩
     case measure=>simp [intOf];omega
    ·cases L:pz x k with
     | true =>
      rw [L] at PP
      go_wp2_with fail;refine aK w zB fun A=>?_;refine aK wr zB fun R=>?_;refine (PP).mono ?_;rintro _ O ⟨rfl,u⟩;have U:Below w w O:=bT A u;have K:=u.size;(try simp at K);have F:=hQ u (b:=w);(first|simp [go_sem,m,z] at F|simp [go_sem] at F|skip);(try clear m E D z);have m:=F;clear F;obtain ⟨E,D,z⟩:=bO m;have H:Below wr wr O:=bT R u;clear u A R
      have M:Below w w O:=bT G H
      go_wp2
      go_roundw
      case rel=>exact ⟨k+1,by omega,by go_num,uN I.out (by simp [L]),m,by omega,M⟩
      case measure=>simp [intOf];omega
     | false =>
      rw [L] at PP
      go_wp2_with fail;refine aK w zB fun A=>?_;refine aK wr zB fun R=>?_;refine (PP).mono ?_;rintro _ O ⟨rfl,u⟩;have U:Below w w O:=bT A u;have K:=u.size;(try simp at K);have F:=hQ u (b:=w);(first|simp [go_sem,m,z] at F|simp [go_sem] at F|skip);(try clear m E D z);have m:=F;clear F;obtain ⟨E,D,z⟩:=bO m;have H:Below wr wr O:=bT R u;clear u A R
      have M:Below w w O:=bT G H
      go_wp2
      go_ret
      exact ⟨dB (xm (by simp [Y,L]) _ N).symm,M⟩
   ·have:k=x.hands.length:=by omega
    subst this
    go_wp2
    go_ret
    exact ⟨dB (by have:=I.out;exact this.symm),G⟩
end
end Go.Proofs.YtffhjmepfojhnaaGreat
