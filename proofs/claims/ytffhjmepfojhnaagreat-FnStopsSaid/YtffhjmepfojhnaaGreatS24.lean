/-
  More of the reference model's steps of sending, on hands and channels that are kept whole; lists lie in memory and hold at most 2 ^ 40 elements.
-/
import Derived.Test.YtffhjmepfojhnaaGreatS18
import Derived.Test.YtffhjmepfojhnaaGreatS10
import Derived.Test.YtffhjmepfojhnaaGreatS01
import Derived.BigRegion
import Derived.Test.YtffhjmepfojhnaaGreatS04
import Derived.Test.YtffhjmepfojhnaaGreatS03
import Derived.Deep.RegionHeld3
import Derived.Deep.DeepCutAuto
import Derived.Test.YtffhjmepfojhnaaGreatS19
import Derived.Test.YtffhjmepfojhnaaGreatS06
set_option maxRecDepth 100000
set_option maxHeartbeats 4000000
set_option linter.unusedSimpArgs false
set_option linter.unusedVariables false
namespace Go.Proofs.YtffhjmepfojhnaaGreat
open _root_.Go.Proofs.Tryz
section
open Go.RowKit
attribute [local simp] aP
attribute [local go_sem ↓] aQ bF aY bY aZ bZ aX bB aN aU
theorem Mk (c:Ch) (h:Ha) (a b:Option Addr) (p q:Nat) (w:World) (h1:fA w w a c.cells) (z1:a=none→p=0) (h2:fD w w b c.words) (z2:b=none→q=0) (Z:bJ c h 1 8 1=true) (a0:h.pos=1) (hs:c.sent=40) :
  Calls prog 189 #[.agg (aF c (.slice a c.cells p) (.slice b c.words q)),.agg (aB h)] w fun r w'=>dE w w' (bI c h) r:=by
 have e:bI c h=done c (aV 4 0):=by simp [bI,Z,a0,uk,hs]
 rw [e]
 obtain ⟨k1,k2,_,_⟩:=dC Z
 obtain ⟨n1,n2⟩:=eU k1
 have m1:c.cells.length≤1099511627776:=by omega
 have m2:c.words.length≤1099511627776:=by omega
 have H1:=aA h1
 have H2:=aA h2
 have Z1:=aA z1
 have Z2:=aA z2
 have D:=aA fun v1 v2 W=>bU c (aV 4 0) v1 v2 w W
 generalize done c (aV 4 0)=x at *
 clear h1 h2 z1 z2 e k1 k2 n1 n2
 go_enter func189,ntmps189
 go_wp2_with fail;refine aK w zB fun y=>?_;refine (dS c h 1 8 1 a b p q _ (aT H1 y) (aT H2 y)).mono ?_;rintro _ w1 ⟨rfl,A⟩;obtain ⟨a3,L,u⟩:=fH y A (b:=w);(try simp at L);(try simp [go_sem] at u);replace K:=dW u;clear u A y
 rw [Z]
 go_wp2_with fail;refine aK w zB fun y=>?_;refine (dU c a b p q _ (aT H1 y) Z1.out (aT H2 y) Z2.out m1 m2).mono ?_;rintro _ w2 ⟨⟨v1,v2,rfl,R,T⟩,E⟩;obtain ⟨a4,M,u⟩:=fH y E (b:=w);(try simp at M);(first|simp [go_sem,K] at u|simp [go_sem] at u|skip);replace K:=dW u;clear u E y
 have d1:=kG R (w+1+1+1+1)
 have d2:=kG T (w+1+1+1+1)
 have p1:=aH (lo':=w) R tO
 have p2:=aH (lo':=w) T tO
 obtain ⟨a1,q1,rfl,_⟩:=R.seg
 obtain ⟨a2,q2,rfl,_⟩:=T.seg
 go_wp2_with fail
 go_region_with (first|((go_at_call 130;refine aK w zB fun y=>?_;refine aK w2 zB fun bk=>?_;refine (gZ _ _ _).mono ?_;rintro _ w5 ⟨rfl,m⟩;have a6:=bT y m;have O:=m.size;(try simp at O);have u:=And.intro (hQ m (b:=w2)) <| And.intro (hQ m (b:=w+1+1+1)) <| And.intro (hQ m (b:=w+1+1)) <| And.intro (hQ m (b:=w+1)) <| hQ m (b:=w);(first|simp [go_sem,K] at u|simp [go_sem] at u|skip);replace K:=ll u;clear u;have z:=bT bk m;clear m y bk);have r1:=own_below p1 z;have r2:=own_below p2 z)|((go_at_call 198;refine aK w zB fun y=>?_;refine (D.out _ _ _ (zO r1 R) (zO r2 T)).mono ?_;rintro _ w3 ⟨⟨y1,y2,rfl,I,J,U,V⟩,F⟩;obtain ⟨a5,N,u⟩:=fH y F (b:=w);(try simp at N);(first|simp [go_sem,K] at u|simp [go_sem] at u|skip);replace K:=dW u;clear u F y);obtain ⟨⟨G,H⟩,X,Y⟩:=mW (w:=w) (w+1+1+1+1) U V d1 d2;obtain ⟨ya,yp,rfl,_⟩:=I.seg;obtain ⟨yb,yq,rfl,_⟩:=J.seg))
 all_goals go_wp2
 all_goals (refine rE results189 rfl (aO x.1 (.slice ya x.1.cells yp) (.slice yb x.1.words yq) tY) rfl (aJ x.2.1 tY) ⟨⟨_,_,rfl,?_,?_,X,Y⟩,by exact zB⟩)
 all_goals (first|exact zP I I G|skip)
 all_goals (first|exact zP J J H|skip)
end
section
open Go.RowKit
attribute [local simp] aP
attribute [local go_sem ↓] aQ bF aY bY aZ bZ aX bB aN aU
theorem qc (c:Ch) (v:Int) (a b:Option Addr) (p q:Nat) (w:World) :
    Calls prog 124 #[.agg (aF c (.slice a c.cells p) (.slice b c.words q)),.int .i64 v] w fun r w'=>r=.returned (.bool (kF c v))∧Below w w w':=tC c v a b p q w
theorem Ml (c:Ch) (h:Ha) (H I:Value) (lo:Nat) (w:World) (h1:aD w lo H c.cells) (m:aG w lo I c.words) (a6:1≤h.mine) (a7:h.mine≤c.words.length) (E:c.words.length≤80) (hs:fJ c h.mine=0) :
    dG 212 c h H I lo w (jR c h):=by
  obtain ⟨j,Z⟩:∃ j:Nat,h.mine=(j:Int)+1:=⟨(h.mine - 1).toNat,by omega⟩
  have z:j<c.words.length:=by omega
  have A:fJ c h.mine=c.words.getD j 0:=by simp [fJ,Z]
  have e:jR c h=(c,h,false):=by simp [jR,hs]
  rw [e]
  rw [A] at hs
  have K:=kY h1
  have L:=kY m
  have q:=nO K
  have r:=nO L
  have a8:=q (w.heap.size) tO
  have ac:=r (w.heap.size) tO
  have a9:=q (w+1) tO
  have ad:=r (w+1) tO
  have aa:=q (w+1+1) tO
  have ae:=r (w+1+1) tO
  have ab:=q (w+1+1+1) tO
  have af:=r (w+1+1+1) tO
  have G:=h1
  have D:=m
  obtain ⟨J,q1,M,_⟩:=h1.seg
  obtain ⟨a2,q2,N,_⟩:=m.seg
  subst M N
  clear h1 m e
  go_enter func212,ntmps212
  obtain ⟨g,cap,F,a4,a5,u,_⟩:=D.open1 z
  simp at F
  obtain ⟨rfl,rfl⟩:=F
  generalize c.words.getD j 0=y at *
  have a0:(0:Int)≤(j:Int):=by omega
  have a3:(j:Int)<(c.words.length:Int):=by omega
  have O:g≠w.heap.size:=by omega
  have R:g≠w.heap.size+1:=by omega
  have T:g≠w.heap.size+1+1:=by omega
  have U:g≠w.heap.size+1+1+1:=by omega
  have V:g<w.heap.size+1:=by omega
  have X:g<w.heap.size+1+1:=by omega
  have Y:g<w.heap.size+1+1+1:=by omega
  go_wp2_with fail
  go_region
  all_goals go_wp2
  all_goals (refine rE results212 rfl (aO c (.slice J c.cells q1) (.slice (some ⟨g,0,none⟩) c.words q2) tY) rfl (aJ h tY) ⟨⟨_,_,rfl,?_,?_,aM _ _,aM _ _⟩,dR zB⟩)
  all_goals first|(show aD _ _ _ c.cells;exact zO G G)|skip
  all_goals first|(show aG _ _ _ c.words;exact zO D D)|skip
theorem Mm (c:Ch) (h:Ha) (v1 v2:Value) (lo:Nat) (w:World) (h1:aD w lo v1 c.cells) (L:aG w lo v2 c.words) (af:1≤h.mine) (ag:h.mine≤c.words.length) (a3:c.words.length≤80) (hs:(fJ c h.mine == 0)=false) (E:(fJ c h.mine == 2)=false) (I:(h.code == 1)=true) :
    dG 212 c h v1 v2 lo w (jR c h):=by
  obtain ⟨j,hj⟩:∃ j:Nat,h.mine=(j:Int)+1:=⟨(h.mine - 1).toNat,by omega⟩
  have X:j<c.words.length:=by omega
  have Y:fJ c h.mine=c.words.getD j 0:=by simp [fJ,hj]
  have e:jR c h=done c (aV 1 0):=by simp at hs E I;simp [jR,hs,E,I]
  rw [e]
  rw [Y] at hs E
  have D:=aA fun W=>bU c (aV 1 0) v1 v2 lo W
  generalize done c (aV 1 0)=x at *
  have b1:=kY h1
  have b2:=kY L
  have M:=nO b1
  have N:=nO b2
  have ah:=M (w.heap.size) tO
  have al:=N (w.heap.size) tO
  have ai:=M (w+1) tO
  have am:=N (w+1) tO
  have aj:=M (w+1+1) tO
  have an:=N (w+1+1) tO
  have ak:=M (w+1+1+1) tO
  have ao:=N (w+1+1+1) tO
  have o1:=h1
  have Z:=L
  obtain ⟨a1,q1,e1,_⟩:=h1.seg
  obtain ⟨a2,q2,e2,_⟩:=L.seg
  subst e1 e2
  clear h1 L e
  go_enter func212,ntmps212
  obtain ⟨g,cap,hv,ad,ae,V,_⟩:=Z.open1 X
  simp at hv
  obtain ⟨rfl,rfl⟩:=hv
  generalize c.words.getD j 0=y at *
  have ab:(0:Int)≤(j:Int):=by omega
  have ac:(j:Int)<(c.words.length:Int):=by omega
  have a4:g≠w.heap.size:=by omega
  have a5:g≠w.heap.size+1:=by omega
  have a6:g≠w.heap.size+1+1:=by omega
  have a7:g≠w.heap.size+1+1+1:=by omega
  have a8:g<w.heap.size+1:=by omega
  have a9:g<w.heap.size+1+1:=by omega
  have aa:g<w.heap.size+1+1+1:=by omega
  go_wp2_with fail;refine aK w zB fun H=>?_;refine (gZ _ _ _).mono ?_;rintro _ w4 ⟨rfl,r⟩;obtain ⟨m,K,u⟩:=fH H r (b:=w);(try simp at K);(try simp [go_sem] at u);replace bX:=dW u;clear u r H
  have s1:=own_below o1 m
  have s2:=own_below Z m
  go_wp2_with fail;refine aK w zB fun H=>?_;refine (D.out _ (zO s1 o1) (zO s2 Z)).mono ?_;rintro _ w3 ⟨⟨y1,y2,rfl,F,G,O,R⟩,q⟩;obtain ⟨a0,J,u⟩:=fH H q (b:=w);(try simp at J);(first|simp [go_sem,bX] at u|simp [go_sem] at u|skip);replace bX:=dW u;clear u q H
  obtain ⟨⟨z,A⟩,T,U⟩:=sO (w:=w) (w+1+1+1+1) O R b1 b2;obtain ⟨ya,yp,rfl,_⟩:=F.seg;obtain ⟨yb,yq,rfl,_⟩:=G.seg
  go_wp2
  refine rE results212 rfl (aO x.1 (.slice ya x.1.cells yp) (.slice yb x.1.words yq) tY) rfl (aJ x.2.1 tY) ⟨⟨_,_,rfl,?_,?_,T,U⟩,dR zB⟩
  · exact zP F F z
  · exact zP G G A
theorem zA (c:Ch) (h:Ha) (G H:Value) (lo:Nat) (w:World) (h1:aD w lo G c.cells) (J:aG w lo H c.words) (af:1≤h.mine) (ag:h.mine≤c.words.length) (a3:c.words.length≤80) (hs:(fJ c h.mine == 0)=false) :
    (∀ (m:(fJ c h.mine == 2)=true),Calls prog 212 #[.agg (aF c G H),.agg (aB h)] w fun r w'=>dJ w w' lo G H (jR c h) r) ∧
    (∀ (m:(fJ c h.mine == 2)=false) (A:(h.code == 1)=false),Calls prog 212 #[.agg (aF c G H),.agg (aB h)] w fun r w'=>dJ w w' lo G H (jR c h) r):=by
  constructor
  case' left =>
    intro m
    have M:Hid (0=0):=rfl
  case' right =>
    intro m A
    have N:Hid (0=0):=rfl
  all_goals
    obtain ⟨j,X⟩:∃ j:Nat,h.mine=(j:Int)+1:=⟨(h.mine - 1).toNat,by omega⟩
    have Y:j<c.words.length:=by omega
    have Z:fJ c h.mine=c.words.getD j 0:=by simp [fJ,X]
    first
    | (replace M:=M;have e:jR c h=done c ({ h with pos:=25,mine:=(j:Int)+1 }):=by rw [← X];simp at hs m;simp [jR,m])
    | (replace N:=N;have e:jR c h=done c ({ h with pos:=24,mine:=(j:Int)+1 }):=by rw [← X];simp at hs m A;simp [jR,hs,m,A])
    rw [e]
    rw [Z] at hs m
    first
    | (replace M:=M
       have D:=aA fun W=>bU c ({ h with pos:=25,mine:=(j:Int)+1 }) G H lo W
       generalize done c ({ h with pos:=25,mine:=(j:Int)+1 })=x at *)
    | (replace N:=N
       have D:=aA fun W=>bU c ({ h with pos:=24,mine:=(j:Int)+1 }) G H lo W
       generalize done c ({ h with pos:=24,mine:=(j:Int)+1 })=x at *)
    have b1:=kY h1
    have b2:=kY J
    have K:=nO b1
    have L:=nO b2
    have ah:=K (w.heap.size) tO
    have al:=L (w.heap.size) tO
    have ai:=K (w+1) tO
    have am:=L (w+1) tO
    have aj:=K (w+1+1) tO
    have an:=L (w+1+1) tO
    have ak:=K (w+1+1+1) tO
    have ao:=L (w+1+1+1) tO
    have o1:=h1
    have o2:=J
    obtain ⟨a1,q1,e1,_⟩:=h1.seg
    obtain ⟨a2,q2,e2,_⟩:=J.seg
    subst e1 e2
    clear h1 J e
    go_enter func212,ntmps212
    obtain ⟨g,cap,hv,ad,ae,V,_⟩:=o2.open1 Y
    simp at hv
    obtain ⟨rfl,rfl⟩:=hv
    generalize c.words.getD j 0=y at *
    have ab:(0:Int)≤(j:Int):=by omega
    have ac:(j:Int)<(c.words.length:Int):=by omega
    have a4:g≠w.heap.size:=by omega
    have a5:g≠w.heap.size+1:=by omega
    have a6:g≠w.heap.size+1+1:=by omega
    have a7:g≠w.heap.size+1+1+1:=by omega
    have a8:g<w.heap.size+1:=by omega
    have a9:g<w.heap.size+1+1:=by omega
    have aa:g<w.heap.size+1+1+1:=by omega
    go_wp2_with fail;refine aK w zB fun bb=>?_;refine (D.out _ (zO o1 o1) (zO o2 o2)).mono ?_;rintro _ w3 ⟨⟨y1,y2,rfl,E,F,O,R⟩,q⟩;obtain ⟨a0,I,zz⟩:=fH bb q (b:=w);(try simp at I);(try simp [go_sem] at zz);replace bX:=dW zz;clear zz q bb
    obtain ⟨⟨u,z⟩,T,U⟩:=sO (w:=w) (w+1+1+1+1) O R b1 b2;obtain ⟨ya,yp,rfl,_⟩:=E.seg;obtain ⟨yb,yq,rfl,_⟩:=F.seg
    go_wp2
    refine rE results212 rfl (aO x.1 (.slice ya x.1.cells yp) (.slice yb x.1.words yq) tY) rfl (aJ x.2.1 tY) ⟨⟨_,_,rfl,?_,?_,T,U⟩,dR zB⟩
    · exact zP E E u
    · exact zP F F z
theorem Mo (c:Ch) (h:Ha) (q u:Value) (lo:Nat) (w:World) (h1:aD w lo q c.cells) (D:aG w lo u c.words) (y:1≤h.mine) (z:h.mine≤c.words.length) (m:c.words.length≤80) (hs:(fJ c h.mine == 0)=false) (A:(fJ c h.mine == 2)=true) :
    Calls prog 212 #[.agg (aF c q u),.agg (aB h)] w fun r w'=>dJ w w' lo q u (jR c h) r:=(zA c h q u lo w h1 D y z m hs).1 A
theorem Mq (c:Ch) (h:Ha) (q u:Value) (lo:Nat) (w:World) (h1:aD w lo q c.cells) (E:aG w lo u c.words) (y:1≤h.mine) (z:h.mine≤c.words.length) (m:c.words.length≤80) (hs:(fJ c h.mine == 0)=false) (A:(fJ c h.mine == 2)=false) (D:(h.code == 1)=false) :
    Calls prog 212 #[.agg (aF c q u),.agg (aB h)] w fun r w'=>dJ w w' lo q u (jR c h) r:=(zA c h q u lo w h1 E y z m hs).2 A D
theorem FJ (c:Ch) (h:Ha) (u y:Value) (lo:Nat) (w:World) (h1:aD w lo u c.cells) (z:aG w lo y c.words) (q:1≤h.mine) (r:h.mine≤c.words.length) (m:c.words.length≤80) :
    dG 212 c h u y lo w (jR c h):=by
  by_cases A:fJ c h.mine=0
  · exact Ml c h u y lo w h1 z q r m A
  · by_cases D:fJ c h.mine=2
    · exact Mo c h u y lo w h1 z q r m (by simpa using A) (by simpa using D)
    · by_cases E:h.code=1
      · exact Mm c h u y lo w h1 z q r m (by simpa using A) (by simpa using D) (by simpa using E)
      · exact Mq c h u y lo w h1 z q r m (by simpa using A) (by simpa using D) (by simpa using E)
end
section
open Go.RowKit
attribute [local simp] aP
attribute [local go_sem ↓] aQ bF aY bY aZ bZ aX bB aN aU
theorem Mr (c:Ch) (h:Ha) (a b:Option Addr) (p q:Nat) (w:World) (h1:fA w w a c.cells) (z1:a=none→p=0) (h2:fD w w b c.words) (z2:b=none→q=0) (hk:bJ c h 1 8 1=true) (a6:h.pos=3) (ht:(kv c h).2=true) :
  Calls prog 189 #[.agg (aF c (.slice a c.cells p) (.slice b c.words q)),.agg (aB h)] w fun r w'=>dE w w' (bI c h) r:=by
 have e:bI c h=done c (kv c h).1:=by simp [bI,hk,a6,vI,ht]
 rw [e]
 obtain ⟨U,V,_,_⟩:=dC hk
 obtain ⟨n1,n2⟩:=eU U
 have m1:c.cells.length≤1099511627776:=by omega
 have m2:c.words.length≤1099511627776:=by omega
 have Z:=aA h1
 have H2:=aA h2
 have Z1:=aA z1
 have Z2:=aA z2
 obtain ⟨c1,c2⟩:=il V
 have K:=fun W x1=>wm c h a b p q W x1 c1 tO
 rw [ht] at K
 have D:=aA fun v1 v2 W=>bU c (kv c h).1 v1 v2 w W
 generalize done c (kv c h).1=x at *
 generalize (kv c h).1=y at *
 replace K:=aA K
 clear h1 h2 z1 z2 e U V n1 n2
 go_enter func189,ntmps189
 go_wp2_with fail;refine aK w zB fun z=>?_;refine (dS c h 1 8 1 a b p q _ (aT Z z) (aT H2 z)).mono ?_;rintro _ w1 ⟨rfl,E⟩;obtain ⟨a7,N,u⟩:=fH z E (b:=w);(try simp at N);(try simp [go_sem] at u);replace M:=dW u;clear u E z
 rw [hk]
 go_wp2_with fail;refine aK w zB fun z=>?_;refine (dU c a b p q _ (aT Z z) Z1.out (aT H2 z) Z2.out m1 m2).mono ?_;rintro _ w2 ⟨⟨v1,v2,rfl,X,Y⟩,F⟩;obtain ⟨a8,O,u⟩:=fH z F (b:=w);(try simp at O);(first|simp [go_sem,M] at u|simp [go_sem] at u|skip);replace M:=dW u;clear u F z
 obtain ⟨k0,U,V,k3⟩:=mF (a:=w) (b:=w2)
 have d1:=kG X (w+1+1+1+1)
 have d2:=kG Y (w+1+1+1+1)
 have p1:=aH (lo':=w) X tO
 have p2:=aH (lo':=w) Y tO
 obtain ⟨a1,q1,rfl,_⟩:=X.seg
 obtain ⟨a2,q2,rfl,_⟩:=Y.seg
 go_wp2_with fail;refine aK w zB fun z=>?_;refine aK w2 zB fun bk=>?_;refine (K.out _ (aT Z z)).mono ?_;rintro _ w3 ⟨rfl,m⟩;have a9:=bT z m;have R:=m.size;(try simp at R);have u:=And.intro (hQ m (b:=w2)) <| And.intro (hQ m (b:=w+1+1+1)) <| And.intro (hQ m (b:=w+1+1)) <| And.intro (hQ m (b:=w+1)) <| hQ m (b:=w);(first|simp [go_sem,M,k0,U,V,k3] at u|simp [go_sem] at u|skip);replace M:=ll u;clear u;have A:=bT bk m;clear m z bk
 have s1:=own_below p1 A
 have s2:=own_below p2 A
 go_wp2_with fail;refine aK w zB fun z=>?_;refine (D.out _ _ _ (zO s1 X) (zO s2 Y)).mono ?_;rintro _ w5 ⟨⟨y1,y2,rfl,J,L,a0,a3⟩,G⟩;obtain ⟨aa,T,u⟩:=fH z G (b:=w);(try simp at T);(first|simp [go_sem,M,k0,U,V,k3] at u|simp [go_sem] at u|skip);replace M:=dW u;clear u G z
 obtain ⟨⟨H,I⟩,a4,a5⟩:=mW (w:=w) (w+1+1+1+1) a0 a3 d1 d2;obtain ⟨ya,yp,rfl,_⟩:=J.seg;obtain ⟨yb,yq,rfl,_⟩:=L.seg
 go_wp2
 refine rE results189 rfl (aO x.1 (.slice ya x.1.cells yp) (.slice yb x.1.words yq) tY) rfl (aJ x.2.1 tY) ⟨⟨_,_,rfl,?_,?_,a4,a5⟩,by exact zB⟩
 ·exact zP J J H
 ·exact zP L L I
theorem Ms (c:Ch) (h:Ha) (a b:Option Addr) (p q:Nat) (w:World) (h1:fA w w a c.cells) (z1:a=none→p=0) (h2:fD w w b c.words) (z2:b=none→q=0) (hk:bJ c h 1 8 1=true) (a4:h.pos=3) (ht:(kv c h).2=false) :
  Calls prog 189 #[.agg (aF c (.slice a c.cells p) (.slice b c.words q)),.agg (aB h)] w fun r w'=>dE w w' (bI c h) r:=by
 have e:bI c h=nothing:=by simp [bI,hk,a4,vI,ht]
 rw [e]
 obtain ⟨R,T,_,_⟩:=dC hk
 obtain ⟨n1,n2⟩:=eU R
 have m1:c.cells.length≤1099511627776:=by omega
 have m2:c.words.length≤1099511627776:=by omega
 have V:=aA h1
 have H2:=aA h2
 have Z1:=aA z1
 have Z2:=aA z2
 obtain ⟨c1,c2⟩:=il T
 have K:=fun W x1=>wm c h a b p q W x1 c1 tO
 rw [ht] at K
 have D:=aA fun W=>iX W w (.slice none 0 0) (.slice none 0 0)
 generalize nothing=x at *
 replace K:=aA K
 clear h1 h2 z1 z2 e R T n1 n2
 go_enter func189,ntmps189
 go_wp2_with fail;refine aK w zB fun y=>?_;refine (dS c h 1 8 1 a b p q _ (aT V y) (aT H2 y)).mono ?_;rintro _ w1 ⟨rfl,z⟩;obtain ⟨a5,L,u⟩:=fH y z (b:=w);(try simp at L);(try simp [go_sem] at u);replace J:=dW u;clear u z y
 rw [hk]
 go_wp2_with fail;refine aK w zB fun y=>?_;refine (dU c a b p q _ (aT V y) Z1.out (aT H2 y) Z2.out m1 m2).mono ?_;rintro _ w2 ⟨⟨v1,v2,rfl,o1,o2⟩,A⟩;obtain ⟨a6,M,u⟩:=fH y A (b:=w);(try simp at M);(first|simp [go_sem,J] at u|simp [go_sem] at u|skip);replace J:=dW u;clear u A y
 obtain ⟨k0,R,T,k3⟩:=mF (a:=w) (b:=w2)
 have U:=kG o1 (w+1+1+1+1)
 have X:=kG o2 (w+1+1+1+1)
 have p1:=aH (lo':=w) o1 tO
 have p2:=aH (lo':=w) o2 tO
 obtain ⟨a1,q1,rfl,_⟩:=o1.seg
 obtain ⟨a2,q2,rfl,_⟩:=o2.seg
 go_wp2_with fail;refine aK w zB fun y=>?_;refine aK w2 zB fun bk=>?_;refine (K.out _ (aT V y)).mono ?_;rintro _ w3 ⟨rfl,m⟩;have a7:=bT y m;have N:=m.size;(try simp at N);have u:=And.intro (hQ m (b:=w2)) <| And.intro (hQ m (b:=w+1+1+1)) <| And.intro (hQ m (b:=w+1+1)) <| And.intro (hQ m (b:=w+1)) <| hQ m (b:=w);(first|simp [go_sem,J,k0,R,T,k3] at u|simp [go_sem] at u|skip);replace J:=ll u;clear u;have a9:=bT bk m;clear m y bk
 clear U X
 have U:∀ j,(Value.slice none 0 0).ownBlock=some j→w.heap.size+1+1+1+1≤j:=fun j hj=>by cases hj
 have X:=U
 go_wp2_with fail;refine aK w zB fun y=>?_;refine (D.out _).mono ?_;rintro _ w5 ⟨⟨y1,y2,rfl,H,I,Y,Z⟩,E⟩;obtain ⟨a8,O,u⟩:=fH y E (b:=w);(try simp at O);(first|simp [go_sem,J,k0,R,T,k3] at u|simp [go_sem] at u|skip);replace J:=dW u;clear u E y
 obtain ⟨⟨F,G⟩,a0,a3⟩:=mW (w:=w) (w+1+1+1+1) Y Z U X;obtain ⟨ya,yp,rfl,_⟩:=H.seg;obtain ⟨yb,yq,rfl,_⟩:=I.seg
 go_wp2
 refine rE results189 rfl (aO x.1 (.slice ya x.1.cells yp) (.slice yb x.1.words yq) tY) rfl (aJ x.2.1 tY) ⟨⟨_,_,rfl,?_,?_,a0,a3⟩,by exact zB⟩
 ·exact zP H H F
 ·exact zP I I G
end
section
open Go.RowKit
attribute [local simp] aP
attribute [local go_sem ↓] aQ bF aY bY aZ bZ aX bB aN aU
theorem FK (x:St) (c:Ch) (h:Ha) (a b:Option Addr) (p q:Nat) (w:World) (h1:fA w w a c.cells) (H:a=none→p=0) (E:fD w w b c.words) (I:b=none→q=0)
  (hs:∀ (a b:Option Addr) (p q:Nat) (w:World),fA w w a c.cells→(a=none→p=0)→fD w w b c.words→(b=none→q=0)→Calls prog 173 #[.agg (aF c (.slice a c.cells p) (.slice b c.words q)),.agg (aB h)] w fun r w'=>dE w w' x r) :
  Calls prog 126 #[.agg (aF c (.slice a c.cells p) (.slice b c.words q)),.agg (aB h)] w fun r w'=>r=.returned (.bool (gL x))∧Below w w w':=by
 have J:=aA h1
 have K:=aA E
 have M:=aA H
 have N:=aA I
 have L:=aA hs
 clear h1 E H I hs
 go_enter func126,ntmps126
 go_wp2_with fail;refine aK w zB fun y=>?_;refine (L.out _ _ _ _ _ (aT J y) M.out (aT K y) N.out).mono ?_;rintro _ U ⟨⟨V,X,rfl,z,A,O,R⟩,m⟩;obtain ⟨F,u,D⟩:=BM y m (b:=w);(try simp at u);(try simp [go_sem] at D);replace T:=uV D;clear D m y
 obtain ⟨Y,yp,rfl,_⟩:=z.seg
 obtain ⟨Z,yq,rfl,_⟩:=A.seg
 cases G:x.2.2 with
 | true =>
  go_wp2
  go_ret
  exact ⟨by simp [gL,G],by exact zB⟩
 | false =>
  go_wp2
  go_ret
  exact ⟨by simp [gL,G],by exact zB⟩
end
section
theorem mX (x:Wo) (i:Nat):aL x (i:Int)=iy x.hands i:=by simp [aL,iy]
theorem FL {c:Ch} {h:Ha} (p:h.pos=0):(fZ c h).2.2=false:=by
 unfold fZ
 rw [if_neg (by simp [dA,p]),if_neg (by simp [dA,p]),if_neg (by simp [dA,p])]
 have:bJ c h 23 25 0=false:=by simp [bJ,dA,p]
 unfold bV
 rw [this]
 rfl
end
end Go.Proofs.YtffhjmepfojhnaaGreat
