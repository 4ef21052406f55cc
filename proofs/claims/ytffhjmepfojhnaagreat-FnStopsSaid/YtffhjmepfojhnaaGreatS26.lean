/-
  Steps of sending and receiving of the reference model, all cases, on hands and channels that are kept whole; lists lie in memory and hold at most 2 ^ 40 elements.
-/
import Derived.Test.YtffhjmepfojhnaaGreatS23
import Derived.Test.YtffhjmepfojhnaaGreatS22
import Derived.Test.YtffhjmepfojhnaaGreatS24
import Derived.Test.YtffhjmepfojhnaaGreatS25
import Derived.Test.YtffhjmepfojhnaaGreatS18
import Derived.Test.YtffhjmepfojhnaaGreatS01
import Derived.Laws.EntriesVeiled
import Derived.BigRegion
import Derived.Test.YtffhjmepfojhnaaGreatS19
import Derived.Deep.DeepCutAuto
import Derived.Deep.RegionHeld3
set_option maxRecDepth 100000
set_option maxHeartbeats 8000000
set_option linter.unusedSimpArgs false
set_option linter.unusedVariables false
namespace Go.Proofs.YtffhjmepfojhnaaGreat
open _root_.Go.Proofs.Tryz
section
open Go.RowKit
attribute [local simp] aP
attribute [local go_sem ↓] aQ bF aY bY aZ bZ aX bB aN aU
theorem Mv (c:Ch) (h:Ha) (a b:Option Addr) (p q:Nat) (w:World) (h1:fA w w a c.cells) (z1:a=none→p=0) (h2:fD w w b c.words) (z2:b=none→q=0) (hk:bJ c h 9 15 2=true) (a3:h.pos=12) :
  Calls prog 190 #[.agg (aF c (.slice a c.cells p) (.slice b c.words q)),.agg (aB h)] w fun r w'=>dE w w' (bL c h) r:=by
 obtain ⟨k1,k2,_,_⟩:=dC hk
 obtain ⟨n1,n2⟩:=eU k1
 have m1:c.cells.length≤1099511627776:=by omega
 have m2:c.words.length≤1099511627776:=by omega
 have H1:=aA h1
 have H2:=aA h2
 have Z1:=aA z1
 have Z2:=aA z2
 obtain ⟨c1,c2⟩:=il k2
 have e:bL c h=gX c h:=by simp [bL,hk,a3]
 rw [e]
 have D:=aA fun v1 v2 W x1 x2 x3=>FI c h v1 v2 w W x1 x2 x3 c1 tO
 generalize gX c h=x at *
 clear h1 h2 z1 z2 e k1 k2 n1 n2 c1 c2
 go_enter func190,ntmps190
 go_wp2_with fail;refine aK w zB fun u=>?_;refine (dS c h 9 15 2 a b p q _ (aT H1 u) (aT H2 u)).mono ?_;rintro _ w1 ⟨rfl,y⟩;obtain ⟨a4,I,m⟩:=fH u y (b:=w);(try simp at I);(try simp [go_sem] at m);replace L:=dW m;clear m y u
 rw [hk]
 go_wp2_with fail;refine aK w zB fun u=>?_;refine (dU c a b p q _ (aT H1 u) Z1.out (aT H2 u) Z2.out m1 m2).mono ?_;rintro _ w2 ⟨⟨v1,v2,rfl,R,T⟩,z⟩;obtain ⟨a5,J,m⟩:=fH u z (b:=w);(try simp at J);(first|simp [go_sem,L] at m|simp [go_sem] at m|skip);replace L:=dW m;clear m z u
 have U:=kG R (w+1+1+1+1)
 have V:=kG T (w+1+1+1+1)
 have p1:=aH (lo':=w) R tO
 have p2:=aH (lo':=w) T tO
 obtain ⟨a1,q1,rfl,_⟩:=R.seg
 obtain ⟨a2,q2,rfl,_⟩:=T.seg
 have N:∀ j,j<w.heap.size+1+1+1+1→some j≠(Value.slice a1 c.cells q1).ownBlock:=fun j H e=>by have:=U _ e.symm;omega
 have O:∀ j,j<w.heap.size+1+1+1+1→some j≠(Value.slice a2 c.words q2).ownBlock:=fun j H e=>by have:=V _ e.symm;omega
 have a7:=N (w.heap.size) tO
 have ab:=O (w.heap.size) tO
 have a8:=N (w+1) tO
 have ac:=O (w+1) tO
 have a9:=N (w+1+1) tO
 have ad:=O (w+1+1) tO
 have aa:=N (w+1+1+1) tO
 have ae:=O (w+1+1+1) tO
 go_wp2_with fail
 refine (D.out _ _ _ (zO p1 R) (zO p2 T) (by simp;omega)).mono ?_
 rintro _ w3 ⟨⟨y1,y2,rfl,F,G,X,Y⟩,M⟩
 have a6:Below w w w3:=I4 zB M (fun j H=>by have:=U j H;omega) (fun j H=>by have:=V j H;omega)
 have K:=M.2.2.2.1;(try (simp at K));have m:=xD M (b:=w);(first|simp [go_sem,L] at m|simp [go_sem] at m|skip);replace L:=dW m;clear m
 clear M
 obtain ⟨⟨A,E⟩,Z,a0⟩:=mW (w:=w) (w+1+1+1+1) X Y U V;obtain ⟨ya,yp,rfl,_⟩:=F.seg;obtain ⟨yb,yq,rfl,_⟩:=G.seg
 go_wp2
 refine rE results190 rfl (aO x.1 (.slice ya x.1.cells yp) (.slice yb x.1.words yq) tY) rfl (aJ x.2.1 tY) ⟨⟨_,_,rfl,?_,?_,Z,a0⟩,by exact zB⟩
 ·exact zP F F A
 ·exact zP G G E
theorem Dt {c:Ch} (e:aW c=true):0≤c.got∧c.got≤40:=by
 simp [aW,fO,dA] at e
 omega
theorem zC {c:Ch} (e:aW c=true):0≤c.sent∧c.sent≤40:=by
 simp [aW,fO,dA] at e
 omega
theorem Mw {c:Ch} (e:aW c=true):0≤c.fin∧c.fin≤40:=by
 simp [aW,fO,dA] at e
 omega
theorem xI (c:Ch) (h:Ha) (a b:Option Addr) (p q:Nat) (w:World) (h1:fA w w a c.cells) (y:a=none→p=0) (u:fD w w b c.words) (z:b=none→q=0) :
  Calls prog 190 #[.agg (aF c (.slice a c.cells p) (.slice b c.words q)),.agg (aB h)] w fun r w'=>dE w w' (bL c h) r:=by
 cases m:bJ c h 9 15 2 with
 | false=>exact LM c h a b p q w h1 u m
 | true =>
  obtain ⟨D,_,E,F⟩:=dC m
  have hp:h.pos=9∨h.pos=10∨h.pos=11∨h.pos=12∨h.pos=13∨h.pos=14∨h.pos=15:=by omega
  rcases hp with hp|hp|hp|hp|hp|hp|hp
  ·by_cases hs:c.got=40
   ·exact LV c h a b p q w h1 y u z m hp hs
   ·exact LU c h a b p q w h1 y u z m hp hs (Dt D)
  ·by_cases hs:(cellAt c h.cell).s=6
   ·exact J2 c h a b p q w h1 y u z m hp hs
   ·cases A:(iY c h).2 with
    | true=>exact J3 c h a b p q w h1 y u z m hp (by simpa using hs) A
    | false=>exact J4 c h a b p q w h1 y u z m hp (by simpa using hs) A
  ·exact LQ c h a b p q w h1 y u z m hp
  ·exact Mv c h a b p q w h1 y u z m hp
  ·cases A:eY c h.wait 1 with
   | true=>exact Jy c h a b p q w h1 y u z m hp A
   | false=>exact Jz c h a b p q w h1 y u z m hp A
  ·exact Mh c h a b p q w h1 y u z m hp
  ·exact Mi c h a b p q w h1 y u z m hp
theorem xJ (c:Ch) (h:Ha) (a b:Option Addr) (p q:Nat) (w:World) (h1:fA w w a c.cells) (y:a=none→p=0) (u:fD w w b c.words) (z:b=none→q=0) :
  Calls prog 189 #[.agg (aF c (.slice a c.cells p) (.slice b c.words q)),.agg (aB h)] w fun r w'=>dE w w' (bI c h) r:=by
 cases m:bJ c h 1 8 1 with
 | false=>exact LJ c h a b p q w h1 u m
 | true =>
  obtain ⟨D,_,E,F⟩:=dC m
  have hp:h.pos=1∨h.pos=2∨h.pos=3∨h.pos=4∨h.pos=5∨h.pos=6∨h.pos=7∨h.pos=8:=by omega
  rcases hp with hp|hp|hp|hp|hp|hp|hp|hp
  ·by_cases hs:c.sent=40
   ·exact Mk c h a b p q w h1 y u z m hp hs
   ·exact LK c h a b p q w h1 y u z m hp hs (zC D)
  ·exact OT c h a b p q w h1 y u z m hp
  ·cases A:(kv c h).2 with
   | true=>exact Mr c h a b p q w h1 y u z m hp A
   | false=>exact Ms c h a b p q w h1 y u z m hp A
  ·exact OB c h a b p q w h1 y u z m hp
  ·exact OC c h a b p q w h1 y u z m hp
  ·exact OV c h a b p q w h1 y u z m hp
  ·exact OH c h a b p q w h1 y u z m hp
  ·exact OE c h a b p q w h1 y u z m hp
end
section
open Go.RowKit
attribute [local simp] aP
attribute [local go_sem ↓] aQ bF aY bY aZ bZ aX bB aN aU
theorem JC (c:Ch) (h:Ha) (a b:Option Addr) (p q:Nat) (w:World) (h1:fA w w a c.cells) (O:fD w w b c.words) (V:bJ c h 23 25 0=false) :
    Calls prog 192 #[.agg (aF c (.slice a c.cells p) (.slice b c.words q)),.agg (aB h)] w fun r w'=>dE w w' (bV c h) r:=by
  have e:bV c h=nothing:=by simp [bV,V]
  rw [e]
  have X:=aA h1
  have Y:=aA O
  have T:=aA fun W=>iX W w (.slice none 0 0) (.slice none 0 0)
  generalize nothing=x at *
  clear h1 O e
  have N:∀ j,(Value.slice none 0 0).ownBlock=some j→w.heap.size+1+1+1+1≤j:=fun j hj=>by cases hj
  have Z:=N
  go_enter func192,ntmps192
  go_wp2_with fail;refine aK w zB fun z=>?_;refine (dS c h 23 25 0 a b p q _ (aT X z) (aT Y z)).mono ?_;rintro _ w1 ⟨rfl,m⟩;obtain ⟨R,G,y⟩:=fH z m (b:=w);(try simp at G);(try simp [go_sem] at y);replace M:=dW y;clear y m z
  rw [V]
  go_wp2_with fail;refine aK w zB fun z=>?_;refine (T.out _).mono ?_;rintro _ w2 ⟨⟨y1,y2,rfl,E,F,I,J⟩,u⟩;obtain ⟨U,H,y⟩:=fH z u (b:=w);(try simp at H);(first|simp [go_sem,M] at y|simp [go_sem] at y|skip);replace M:=dW y;clear y u z
  obtain ⟨⟨A,D⟩,K,L⟩:=mW (w:=w) (w+1+1+1+1) I J N Z;obtain ⟨ya,yp,rfl,_⟩:=E.seg;obtain ⟨yb,yq,rfl,_⟩:=F.seg
  go_wp2
  refine rE results192 rfl (aO x.1 (.slice ya x.1.cells yp) (.slice yb x.1.words yq) tY) rfl (aJ x.2.1 tY) ⟨⟨_,_,rfl,?_,?_,K,L⟩,by exact zB⟩
  · exact zP E E A
  · exact zP F F D
theorem JD (c:Ch) (h:Ha) (a b:Option Addr) (p q:Nat) (w:World) (h1:fA w w a c.cells) (U:fD w w b c.words) (hk:bJ c h 23 25 0=true) (Z:kF c h.mine=false) :
    Calls prog 192 #[.agg (aF c (.slice a c.cells p) (.slice b c.words q)),.agg (aB h)] w fun r w'=>dE w w' (bV c h) r:=by
  have e:bV c h=nothing:=by simp [bV,hk,Z]
  rw [e]
  have H1:=aA h1
  have H2:=aA U
  have T:=aA fun W=>iX W w (.slice none 0 0) (.slice none 0 0)
  generalize nothing=x at *
  clear h1 U e
  have R:∀ j,(Value.slice none 0 0).ownBlock=some j→w.heap.size+1+1+1+1≤j:=fun j hj=>by cases hj
  have d2:=R
  go_enter func192,ntmps192
  go_wp2_with fail;refine aK w zB fun u=>?_;refine (dS c h 23 25 0 a b p q _ (aT H1 u) (aT H2 u)).mono ?_;rintro _ w1 ⟨rfl,z⟩;obtain ⟨X,I,m⟩:=fH u z (b:=w);(try simp at I);(try simp [go_sem] at m);replace K:=dW m;clear m z u
  rw [hk]
  go_wp2_with fail;refine aK w zB fun u=>?_;refine (qc c h.mine _ _ _ _ _).mono ?_;rintro _ w0 ⟨rfl,y⟩;obtain ⟨V,H,m⟩:=fH u y (b:=w);(try simp at H);(first|simp [go_sem,K] at m|simp [go_sem] at m|skip);replace K:=dW m;clear m y u
  rw [Z]
  go_wp2_with fail;refine aK w zB fun u=>?_;refine (T.out _).mono ?_;rintro _ w2 ⟨⟨y1,y2,rfl,F,G,L,M⟩,A⟩;obtain ⟨Y,J,m⟩:=fH u A (b:=w);(try simp at J);(first|simp [go_sem,K] at m|simp [go_sem] at m|skip);replace K:=dW m;clear m A u
  obtain ⟨⟨D,E⟩,N,O⟩:=mW (w:=w) (w+1+1+1+1) L M R d2;obtain ⟨ya,yp,rfl,_⟩:=F.seg;obtain ⟨yb,yq,rfl,_⟩:=G.seg
  go_wp2
  refine rE results192 rfl (aO x.1 (.slice ya x.1.cells yp) (.slice yb x.1.words yq) tY) rfl (aJ x.2.1 tY) ⟨⟨_,_,rfl,?_,?_,N,O⟩,by exact zB⟩
  · exact zP F F D
  · exact zP G G E
theorem JE (c:Ch) (h:Ha) (a b:Option Addr) (p q:Nat) (w:World) (h1:fA w w a c.cells) (V:fD w w b c.words) (hk:bJ c h 23 25 0=true) (hh:kF c h.mine=true) (R:h.pos=24) (hc:(h.code == 1)=true) :
    Calls prog 192 #[.agg (aF c (.slice a c.cells p) (.slice b c.words q)),.agg (aB h)] w fun r w'=>dE w w' (bV c h) r:=by
  have e:bV c h=nothing:=by simp at hc;simp [bV,hk,hh,R,hc]
  rw [e]
  have H1:=aA h1
  have H2:=aA V
  have T:=aA fun W=>iX W w (.slice none 0 0) (.slice none 0 0)
  generalize nothing=x at *
  clear h1 V e
  have U:∀ j,(Value.slice none 0 0).ownBlock=some j→w.heap.size+1+1+1+1≤j:=fun j hj=>by cases hj
  have d2:=U
  go_enter func192,ntmps192
  go_wp2_with fail;refine aK w zB fun u=>?_;refine (dS c h 23 25 0 a b p q _ (aT H1 u) (aT H2 u)).mono ?_;rintro _ w1 ⟨rfl,z⟩;obtain ⟨Y,I,m⟩:=fH u z (b:=w);(try simp at I);(try simp [go_sem] at m);replace K:=dW m;clear m z u
  rw [hk]
  go_wp2_with fail;refine aK w zB fun u=>?_;refine (qc c h.mine _ _ _ _ _).mono ?_;rintro _ w0 ⟨rfl,y⟩;obtain ⟨X,H,m⟩:=fH u y (b:=w);(try simp at H);(first|simp [go_sem,K] at m|simp [go_sem] at m|skip);replace K:=dW m;clear m y u
  rw [hh]
  go_wp2_with fail;refine aK w zB fun u=>?_;refine (T.out _).mono ?_;rintro _ w2 ⟨⟨y1,y2,rfl,F,G,L,M⟩,A⟩;obtain ⟨Z,J,m⟩:=fH u A (b:=w);(try simp at J);(first|simp [go_sem,K] at m|simp [go_sem] at m|skip);replace K:=dW m;clear m A u
  obtain ⟨⟨D,E⟩,N,O⟩:=mW (w:=w) (w+1+1+1+1) L M U d2;obtain ⟨ya,yp,rfl,_⟩:=F.seg;obtain ⟨yb,yq,rfl,_⟩:=G.seg
  go_wp2
  refine rE results192 rfl (aO x.1 (.slice ya x.1.cells yp) (.slice yb x.1.words yq) tY) rfl (aJ x.2.1 tY) ⟨⟨_,_,rfl,?_,?_,N,O⟩,by exact zB⟩
  · exact zP F F D
  · exact zP G G E
theorem Mx (c:Ch) (h:Ha) (a b:Option Addr) (p q:Nat) (w:World) (h1:fA w w a c.cells) (z1:a=none→p=0) (h2:fD w w b c.words) (z2:b=none→q=0) (hk:bJ c h 23 25 0=true) (hh:kF c h.mine=true) (a6:h.pos=23) :
    Calls prog 192 #[.agg (aF c (.slice a c.cells p) (.slice b c.words q)),.agg (aB h)] w fun r w'=>dE w w' (bV c h) r:=by
  obtain ⟨k1,k2,_,_⟩:=dC hk
  obtain ⟨n1,n2⟩:=eU k1
  have m1:c.cells.length≤1099511627776:=by omega
  have m2:c.words.length≤1099511627776:=by omega
  have H1:=aA h1
  have H2:=aA h2
  have Z1:=aA z1
  have Z2:=aA z2
  have E:=pK.1 hh
  have e:bV c h=jR c h:=by simp [bV,hk,hh,a6]
  rw [e]
  have D:=aA fun v1 v2 W x1 x2=>FJ c h v1 v2 w W x1 x2 E.1 E.2 n2
  generalize jR c h=x at *
  clear h1 h2 z1 z2 e k1 k2 n1 n2 E
  go_enter func192,ntmps192
  go_wp2_with fail;refine aK w zB fun u=>?_;refine (dS c h 23 25 0 a b p q _ (aT H1 u) (aT H2 u)).mono ?_;rintro _ w1 ⟨rfl,z⟩;obtain ⟨a8,M,m⟩:=fH u z (b:=w);(try simp at M);(try simp [go_sem] at m);replace J:=dW m;clear m z u
  rw [hk]
  go_wp2_with fail;refine aK w zB fun u=>?_;refine (qc c h.mine _ _ _ _ _).mono ?_;rintro _ w0 ⟨rfl,y⟩;obtain ⟨a7,L,m⟩:=fH u y (b:=w);(try simp at L);(first|simp [go_sem,J] at m|simp [go_sem] at m|skip);replace J:=dW m;clear m y u
  rw [hh]
  go_wp2_with fail;refine aK w zB fun u=>?_;refine (dU c a b p q _ (aT H1 u) Z1.out (aT H2 u) Z2.out m1 m2).mono ?_;rintro _ w2 ⟨⟨v1,v2,rfl,V,X⟩,A⟩;obtain ⟨a9,N,m⟩:=fH u A (b:=w);(try simp at N);(first|simp [go_sem,J] at m|simp [go_sem] at m|skip);replace J:=dW m;clear m A u
  have Y:=kG V (w+1+1+1+1)
  have Z:=kG X (w+1+1+1+1)
  have p1:=aH (lo':=w) V tO
  have p2:=aH (lo':=w) X tO
  obtain ⟨a1,q1,rfl,_⟩:=V.seg
  obtain ⟨a2,q2,rfl,_⟩:=X.seg
  have T:∀ j,j<w.heap.size+1+1+1+1→some j≠(Value.slice a1 c.cells q1).ownBlock:=fun j K e=>by have:=Y _ e.symm;omega
  have U:∀ j,j<w.heap.size+1+1+1+1→some j≠(Value.slice a2 c.words q2).ownBlock:=fun j K e=>by have:=Z _ e.symm;omega
  have ab:=T (w.heap.size) tO
  have af:=U (w.heap.size) tO
  have ac:=T (w+1) tO
  have ag:=U (w+1) tO
  have ad:=T (w+1+1) tO
  have ah:=U (w+1+1) tO
  have ae:=T (w+1+1+1) tO
  have ai:=U (w+1+1+1) tO
  go_wp2_with fail
  refine (D.out _ _ _ (zO p1 V) (zO p2 X)).mono ?_
  rintro _ w3 ⟨⟨y1,y2,rfl,H,I,a0,a3⟩,R⟩
  have aa:Below w w w3:=I4 zB R (fun j K=>by have:=Y j K;omega) (fun j K=>by have:=Z j K;omega)
  have O:=R.2.2.2.1;(try (simp at O));have m:=xD R (b:=w);(first|simp [go_sem,J] at m|simp [go_sem] at m|skip);replace J:=dW m;clear m
  clear R
  obtain ⟨⟨F,G⟩,a4,a5⟩:=mW (w:=w) (w+1+1+1+1) a0 a3 Y Z;obtain ⟨ya,yp,rfl,_⟩:=H.seg;obtain ⟨yb,yq,rfl,_⟩:=I.seg
  go_wp2
  refine rE results192 rfl (aO x.1 (.slice ya x.1.cells yp) (.slice yb x.1.words yq) tY) rfl (aJ x.2.1 tY) ⟨⟨_,_,rfl,?_,?_,a4,a5⟩,by exact zB⟩
  · exact zP H H F
  · exact zP I I G
theorem wJ (c:Ch) (h:Ha) (a b:Option Addr) (p q:Nat) (w:World) (h1:fA w w a c.cells) (z1:a=none→p=0) (h2:fD w w b c.words) (z2:b=none→q=0) (T:bJ c h 23 25 0=true) (hh:kF c h.mine=true) (Z:h.pos=25) :
    (∀ (L:(h.code == 1)=true),Calls prog 192 #[.agg (aF c (.slice a c.cells p) (.slice b c.words q)),.agg (aB h)] w fun r w'=>dE w w' (bV c h) r) ∧
    (∀ (L:(h.code == 1)=false),Calls prog 192 #[.agg (aF c (.slice a c.cells p) (.slice b c.words q)),.agg (aB h)] w fun r w'=>dE w w' (bV c h) r):=by
  constructor
  case' left =>
    intro L
    have U:Hid (0=0):=rfl
  case' right =>
    intro L
    have V:Hid (0=0):=rfl
  all_goals
    obtain ⟨k1,k2,_,_⟩:=dC T
    obtain ⟨n1,n2⟩:=eU k1
    have m1:c.cells.length≤1099511627776:=by omega
    have m2:c.words.length≤1099511627776:=by omega
    have H1:=aA h1
    have H2:=aA h2
    have Z1:=aA z1
    have Z2:=aA z2
    obtain ⟨c1,c2⟩:=il k2
    obtain ⟨i,Y⟩:∃ i:Nat,h.cell=(i:Int):=⟨h.cell.toNat,by omega⟩
    have hi:i<c.cells.length:=by omega
    first
    | (replace U:=U;have e:bV c h=done (cB c i 9) (aV 3 0):=by simp at L;simp [bV,T,hh,Z,Y,pg,L])
    | (replace V:=V;have e:bV c h=done (cB c i 10) (aV 3 0):=by simp at L;simp [bV,T,hh,Z,Y,pg,L])
    rw [e]
    first
    | (replace U:=U
       have ST:=aA fun J K W=>kQ c i 9 J K w W
       have D:=fun J K W=>bU (cB c i 9) (aV 3 0) J K w W)
    | (replace V:=V
       have ST:=aA fun J K W=>kQ c i 10 J K w W
       have D:=fun J K W=>bU (cB c i 10) (aV 3 0) J K w W)
    simp only [lU,kU] at D
    first
    | (replace U:=U;generalize done (cB c i 9) (aV 3 0)=x at *)
    | (replace V:=V;generalize done (cB c i 10) (aV 3 0)=x at *)
    replace D:=aA D
    clear h1 h2 z1 z2 e k1 k2 n1 n2 c1 c2
    go_enter func192,ntmps192
    go_wp2_with fail;refine aK w zB fun y=>?_;refine (dS c h 23 25 0 a b p q _ (aT H1 y) (aT H2 y)).mono ?_;rintro _ w1 ⟨rfl,G⟩;obtain ⟨ad,a3,m⟩:=fH y G (b:=w);(try simp at a3);(try simp [go_sem] at m);replace A:=dW m;clear m G y
    rw [T]
    go_wp2_with fail;refine aK w zB fun y=>?_;refine (qc c h.mine _ _ _ _ _).mono ?_;rintro _ w0 ⟨rfl,F⟩;obtain ⟨ac,a0,m⟩:=fH y F (b:=w);(try simp at a0);(first|simp [go_sem,A] at m|simp [go_sem] at m|skip);replace A:=dW m;clear m F y
    rw [hh]
    go_wp2_with fail;refine aK w zB fun y=>?_;refine (dU c a b p q _ (aT H1 y) Z1.out (aT H2 y) Z2.out m1 m2).mono ?_;rintro _ w2 ⟨⟨J,K,rfl,X,o2⟩,H⟩;obtain ⟨ae,a4,m⟩:=fH y H (b:=w);(try simp at a4);(first|simp [go_sem,A] at m|simp [go_sem] at m|skip);replace A:=dW m;clear m H y
    have d1:=kG X (w+1+1+1+1)
    have d2:=kG o2 (w+1+1+1+1)
    have p1:=aH (lo':=w) X tO
    have p2:=aH (lo':=w) o2 tO
    obtain ⟨a1,q1,rfl,_⟩:=X.seg
    obtain ⟨a2,q2,rfl,_⟩:=o2.seg
    have nw:∀ j,(j<w.heap.size+1+1+1+1∨w2.heap.size≤j)→some j≠(Value.slice a1 c.cells q1).ownBlock:=fun j hj e=>by have:=d1 _ e.symm;have:=(X.lt _ e.symm).2;omega
    have ai:=nw (w.heap.size) tO
    have aj:=nw (w+1) tO
    have ak:=nw (w+1+1) tO
    have al:=nw (w+1+1+1) tO
    have am:=nw w2 tO
    go_wp2_with fail
    refine (ST.out _ _ _ (zO p1 X) (zO p2 o2) hi).mono ?_
    rintro _ w4 ⟨rfl,s1,s2,u⟩
    have a6:=u.size;(try (simp at a6));have m:=And.intro (bE u (b:=w2) tS (by assumption)) <| And.intro (bE u (b:=w+1+1+1) tS (by assumption)) <| And.intro (bE u (b:=w+1+1) tS (by assumption)) <| And.intro (bE u (b:=w+1) tS (by assumption)) <| bE u (b:=w) tS (by assumption);(first|simp [go_sem,A] at m|simp [go_sem] at m|skip);replace A:=ll m;clear m
    have ag:Below w w w4:=iN zB u tS (fun k T=>by have:=d1 k T;omega)
    clear u
    go_wp2_with fail;refine aK w zB fun y=>?_;refine aK w4 zB fun bk=>?_;refine (gZ _ _ _).mono ?_;rintro _ w5 ⟨rfl,z⟩;obtain ⟨ah,a7,m⟩:=fH y z (b:=w);(try simp at a7);(first|simp [go_sem,A] at m|simp [go_sem] at m|skip);replace A:=dW m;clear m;have E:=bT bk z;clear z y bk
    have r1:=own_below s1 E
    have r2:=own_below s2 E
    go_wp2_with fail;refine aK w zB fun y=>?_;refine (D.out _ _ _ (zO r1 X) (zO r2 o2)).mono ?_;rintro _ w3 ⟨⟨y1,y2,rfl,O,R,a8,a9⟩,I⟩;obtain ⟨af,a5,m⟩:=fH y I (b:=w);(try simp at a5);(first|simp [go_sem,A] at m|simp [go_sem] at m|skip);replace A:=dW m;clear m I y
    obtain ⟨⟨M,N⟩,aa,ab⟩:=mW (w:=w) (w+1+1+1+1) a8 a9 d1 d2;obtain ⟨ya,yp,rfl,_⟩:=O.seg;obtain ⟨yb,yq,rfl,_⟩:=R.seg
    go_wp2
    refine rE results192 rfl (aO x.1 (.slice ya x.1.cells yp) (.slice yb x.1.words yq) tY) rfl (aJ x.2.1 tY) ⟨⟨_,_,rfl,?_,?_,aa,ab⟩,by exact zB⟩
    · exact zP O O M
    · exact zP R R N
theorem JF (c:Ch) (h:Ha) (a b:Option Addr) (p q:Nat) (w:World) (h1:fA w w a c.cells) (D:a=none→p=0) (u:fD w w b c.words) (E:b=none→q=0) (A:bJ c h 23 25 0=true) (z:kF c h.mine=true) (m:h.pos=25) (y:(h.code == 1)=true) :
    Calls prog 192 #[.agg (aF c (.slice a c.cells p) (.slice b c.words q)),.agg (aB h)] w fun r w'=>dE w w' (bV c h) r:=(wJ c h a b p q w h1 D u E A z m).1 y
theorem JG (c:Ch) (h:Ha) (a b:Option Addr) (p q:Nat) (w:World) (h1:fA w w a c.cells) (D:a=none→p=0) (u:fD w w b c.words) (E:b=none→q=0) (A:bJ c h 23 25 0=true) (z:kF c h.mine=true) (m:h.pos=25) (y:(h.code == 1)=false) :
    Calls prog 192 #[.agg (aF c (.slice a c.cells p) (.slice b c.words q)),.agg (aB h)] w fun r w'=>dE w w' (bV c h) r:=(wJ c h a b p q w h1 D u E A z m).2 y
end
section
open Go.RowKit
attribute [local simp] aP
attribute [local go_sem ↓] aQ bF aY bY aZ bZ aX bB aN aU
theorem M9 (c:Ch) (h:Ha) (a b:Option Addr) (p q:Nat) (w:World) (h1:fA w w a c.cells) (z1:a=none→p=0) (h2:fD w w b c.words) (z2:b=none→q=0) (hk:bJ c h 23 25 0=true) (hh:kF c h.mine=true) (ac:h.pos=24) (hc:(h.code == 1)=false) :
  Calls prog 192 #[.agg (aF c (.slice a c.cells p) (.slice b c.words q)),.agg (aB h)] w fun r w'=>dE w w' (bV c h) r:=by
 obtain ⟨k1,k2,_,_⟩:=dC hk
 obtain ⟨n1,n2⟩:=eU k1
 have m1:c.cells.length≤1099511627776:=by omega
 have m2:c.words.length≤1099511627776:=by omega
 have H1:=aA h1
 have H2:=aA h2
 have Z1:=aA z1
 have Z2:=aA z2
 obtain ⟨c1,c2⟩:=il k2
 obtain ⟨i,ab⟩:∃ i:Nat,h.cell=(i:Int):=⟨h.cell.toNat,by omega⟩
 have hi:i<c.cells.length:=by omega
 have e:bV c h=done c (aV 2 (cellAt c h.cell).e):=by simp at hc;simp [bV,hk,hh,ac,hc]
 rw [e]
 obtain ⟨m,R,rfl,hb,A⟩:∃ O o,a=some ⟨O,o,none⟩∧O<w.heap.size∧w.cell? ⟨O,o+i*3+1,none⟩=some (.int .i64 (cellAt c h.cell).e):=by
  rcases H1.out with h0|⟨O,o',e,h1,h2⟩
  ·omega
  ·exact ⟨O,o',e,h1,by simpa [iq,cellAt,ab,C3.val] using h2 i 1 hi tO⟩
 have D:=aA fun v1 v2 W=>bU (c) (aV 2 (cellAt c h.cell).e) v1 v2 w W
 generalize done c (aV 2 (cellAt c h.cell).e)=x at *
 generalize (cellAt c h.cell).e=el at *
 clear h1 h2 z1 z2 e k1 k2 n1 n2 c1 c2
 go_enter func192,ntmps192
 go_wp2_with fail;refine aK w zB fun m=>?_;refine (dS c h 23 25 0 _ b p q _ (aT H1 m) (aT H2 m)).mono ?_;rintro _ w1 ⟨rfl,H⟩;obtain ⟨ae,Y,z⟩:=fH m H (b:=w);(try simp at Y);(try simp [go_sem] at z);replace E:=dW z;clear z H m
 rw [hk]
 go_wp2_with fail;refine aK w zB fun m=>?_;refine (qc c h.mine _ _ _ _ _).mono ?_;rintro _ w0 ⟨rfl,G⟩;obtain ⟨ad,X,z⟩:=fH m G (b:=w);(try simp at X);(first|simp [go_sem,E] at z|simp [go_sem] at z|skip);replace E:=dW z;clear z G m
 rw [hh]
 go_wp2_with fail;refine aK w zB fun m=>?_;refine (dU c _ b p q _ (aT H1 m) Z1.out (aT H2 m) Z2.out m1 m2).mono ?_;rintro _ N ⟨⟨v1,v2,rfl,o1,o2⟩,I⟩;obtain ⟨T,Z,z⟩:=fH m I (b:=w);(try simp at Z);(first|simp [go_sem,E] at z|simp [go_sem] at z|skip);replace E:=dW z;clear z I m
 have d1:=kG o1 (w+1+1+1+1)
 have d2:=kG o2 (w+1+1+1+1)
 have p1:=aH (lo':=w) o1 tO
 have p2:=aH (lo':=w) o2 tO
 obtain ⟨a1,q1,rfl,_⟩:=o1.seg
 obtain ⟨a2,q2,rfl,_⟩:=o2.seg
 obtain ⟨k0,k1,k2,k3⟩:=mF (a:=w) (b:=N)
 have a4:=(T.cell (p:=⟨m,R+i*3+1,none⟩) hb).trans A
 have ao:(0:Int)≤(i:Int):=by omega
 have ap:(i:Int)<(c.cells.length:Int):=by omega
 have am:m<N.heap.size:=by omega
 have an:m≠N.heap.size:=by omega
 have ag:m<w.heap.size+1:=by omega
 have aj:m≠w.heap.size+1:=by omega
 have ah:m<w.heap.size+1+1:=by omega
 have ak:m≠w.heap.size+1+1:=by omega
 have ai:m<w.heap.size+1+1+1:=by omega
 have al:m≠w.heap.size+1+1+1:=by omega
 go_wp2_with fail
 go_region_held3 (fun w'=>hp w' N=some (.cells (aF c (.slice a1 c.cells q1) (.slice a2 c.words q2)) 31)∧w'.cell? ⟨w,4,none⟩=some (.slice (some ⟨m,R,none⟩) c.cells p)∧w'.cell? ⟨w+1,3,none⟩=some (.int .i64 i)∧w'.cell? ⟨m,R+i*3+1,none⟩=some (.int .i64 el))
  (first|(simp [*,go_sem]))
  (first|((go_at_call 130;refine aK w zB fun m=>?_;refine aK N zB fun bk=>?_;refine (gZ _ _ _).mono ?_;rintro _ w5 ⟨rfl,u⟩;have V:=bT m u;have a3:=u.size;(try simp at a3);have z:=And.intro (hQ u (b:=N)) <| And.intro (hQ u (b:=w+1+1+1)) <| And.intro (hQ u (b:=w+1+1)) <| And.intro (hQ u (b:=w+1)) <| hQ u (b:=w);(first|simp [go_sem,E,k0,k1,k2,k3] at z|simp [go_sem] at z|skip);replace E:=ll z;clear z;have F:=bT bk u;clear u m bk);have a5:=(V.cell (p:=⟨m,R+i*3+1,none⟩) hb).trans A;have af:m<w5.heap.size:=tO;have r1:=own_below p1 F;have r2:=own_below p2 F)|((go_at_call 198;refine aK w zB fun m=>?_;refine (D.out _ _ _ (zO r1 o1) (zO r2 o2)).mono ?_;rintro _ w3 ⟨⟨y1,y2,rfl,L,M,a7,a8⟩,y⟩;have U:=bT m y;have a0:=y.size;(try simp at a0);have z:=And.intro (hQ y (b:=N)) <| And.intro (hQ y (b:=w+1+1+1)) <| And.intro (hQ y (b:=w+1+1)) <| And.intro (hQ y (b:=w+1)) <| hQ y (b:=w);(first|simp [go_sem,E,k0,k1,k2,k3] at z|simp [go_sem] at z|skip);replace E:=ll z;clear z y m);have a6:=(U.cell (p:=⟨m,R+i*3+1,none⟩) hb).trans A;obtain ⟨⟨J,K⟩,a9,aa⟩:=mW (w:=w) (w+1+1+1+1) a7 a8 d1 d2;obtain ⟨ya,yp,rfl,_⟩:=L.seg;obtain ⟨yb,yq,rfl,_⟩:=M.seg))
 all_goals go_wp2
 all_goals (refine rE results192 rfl (aO x.1 (.slice ya x.1.cells yp) (.slice yb x.1.words yq) tY) rfl (aJ x.2.1 tY) ⟨⟨_,_,rfl,?_,?_,a9,aa⟩,by exact zB⟩)
 all_goals (first|exact zP L L J|skip)
 all_goals (first|exact zP M M K|skip)
theorem qL (c:Ch) (h:Ha) (a b:Option Addr) (p q:Nat) (w:World) (h1:fA w w a c.cells) (A:a=none→p=0) (u:fD w w b c.words) (D:b=none→q=0) :
  Calls prog 192 #[.agg (aF c (.slice a c.cells p) (.slice b c.words q)),.agg (aB h)] w fun r w'=>dE w w' (bV c h) r:=by
 cases m:bJ c h 23 25 0 with
 | false=>exact JC c h a b p q w h1 u m
 | true =>
  cases y:kF c h.mine with
  | false=>exact JD c h a b p q w h1 u m y
  | true =>
   obtain ⟨E,_,F,G⟩:=dC m
   have hp:h.pos=23∨h.pos=24∨h.pos=25:=by omega
   rcases hp with hp|hp|hp
   ·exact Mx c h a b p q w h1 A u D m y hp
   ·cases z:h.code == 1 with
    | true=>exact JE c h a b p q w h1 u m y hp z
    | false=>exact M9 c h a b p q w h1 A u D m y hp z
   ·cases z:h.code == 1 with
    | true=>exact JF c h a b p q w h1 A u D m y hp z
    | false=>exact JG c h a b p q w h1 A u D m y hp z
end
section
open Go.RowKit
attribute [local simp] aP
attribute [local go_sem ↓] aQ bF aY bY aZ bZ aX bB aN aU
theorem jX (c:Ch) (a b:Option Addr) (p q:Nat) (w:World) (h1:fA w w a c.cells) (m:fD w w b c.words) (u:c.cells.length≤maxLen) (y:c.words.length≤maxLen) :
  Calls prog 98 #[.agg (aF c (.slice a c.cells p) (.slice b c.words q))] w fun r w'=>r=.returned (.bool (aW c))∧Below w w w':=jo c a b p q w h1 m u y
theorem uG (c:Ch) (a b:Option Addr) (p q:Nat) (w:World) (h1:fA w w a c.cells) (D:a=none→p=0) (y:fD w w b c.words) (E:b=none→q=0) (z:c.cells.length≤1099511627776) (A:c.words.length≤1099511627776) :
  Calls prog 101 #[.agg (aF c (.slice a c.cells p) (.slice b c.words q))] w fun r w'=>(∃ m u,r=.returned (.agg (aF c m u))∧aD w' w m c.cells∧aG w' w u c.words)∧Below w w w':=mU c a b p q w h1 D y E z A
def mD (x:St):St:=if aW x.1 && bM x.2.1 then x else nothing
theorem Ib {w:World} {lo:Nat} {e:TypeId} {k n p:Nat} {a:Option Addr} {r:List Value} (h:w.ownsRow lo e k (.slice a n p) n r):n≤maxLen:=by
 rcases h.2 with ⟨_,h1⟩|⟨g,cap,m,_,_,_,h1,q,_⟩
 ·omega
 ·exact Nat.le_trans h1 q
theorem gW {w w':World} {u y:Value} {lo lo' b k D n E:Nat} {e r T:TypeId} {x:Array Value} {H q:List Value} (m:hp w b=some (.cells x T)) (A:jI u.ownBlock y.ownBlock w w') (F:w.ownsRow lo e k u n H) (G:w.ownsRow lo' r D y E q) (h1:e≠T) (z:r≠T):hp w' b=some (.cells x T) :=
 (BS A (bO m).2.2 (fun e=>bH F m h1 _ e.symm rfl) (fun e=>bH G m z _ e.symm rfl)).trans m
theorem iI.onl {w w':World} {v y z:Value} {lo m q k H n I:Nat} {e u T:TypeId} {x:Array Value} {L r:List Value} (h:iI w v lo x T) (E:jI y.ownBlock z.ownBlock w w') (J:w.ownsRow m e k y n L) (K:w.ownsRow q u H z I r) (h1:e≠T) (D:u≠T):iI w' v lo x T:=by
 obtain ⟨b,A,F,G⟩:=h
 exact ⟨b,A,F,gW G E J K h1 D⟩
theorem nD (F:Nat) (x:St) (c:Ch) (h:Ha) (a b:Option Addr) (p q:Nat) (w:World) (h1:fA w w a c.cells) (z1:a=none→p=0) (h2:fD w w b c.words) (z2:b=none→q=0) (hc:aW c=true) (hh:bM h=true) (eg:∀ args w,(callFunc F args).run prog w=.ok (.enter F args) w) (HF:∀ (v1 v2:Value) (lo:Nat) (W:World),aD W lo v1 c.cells→aG W lo v2 c.words→lo≤W.heap.size→Calls prog F #[.agg (aF c v1 v2),.agg (aB h)] W fun r w'=>dJ W w' lo v1 v2 x r) :
  Calls prog 236 #[.func (.func F) #[] #[],.agg (aF c (.slice a c.cells p) (.slice b c.words q)),.agg (aB h)] w fun r w'=>dE w w' (mD x) r:=by
 obtain ⟨n1,n2⟩:=kK hc
 have l1:c.cells.length≤maxLen:=by unfold maxLen;omega
 have l2:c.words.length≤maxLen:=by unfold maxLen;omega
 have m1:c.cells.length≤1099511627776:=by omega
 have m2:c.words.length≤1099511627776:=by omega
 have H1:=aA h1
 have H2:=aA h2
 have Z1:=aA z1
 have Z2:=aA z2
 clear h1 h2 z1 z2 n1 n2
 obtain ⟨X,ac⟩:∃ X,X=mD x:=⟨_,rfl⟩
 rw [← ac]
 have b6:=aA HF
 clear HF
 go_enter func236,ntmps236
 go_wp2_with fail;refine aK w zB fun bb=>?_;refine (jX c a b p q _ (aT H1 bb) (aT H2 bb) l1 l2).mono ?_;rintro _ w1 ⟨rfl,ak⟩;have b9:Below w w w1:=bT bb ak;have b7:=ak.size;(try simp at b7);have A:=q4 ak (b:=w);(try simp [go_sem] at A);(try clear m H G y);(try clear u J I D);(try clear a3 am aj a8);(try clear ab av ar ap);obtain ⟨m,u,a3,ab⟩:=A;obtain ⟨H,G,y⟩:=bO m;obtain ⟨J,I,D⟩:=bO u;obtain ⟨am,aj,a8⟩:=bO a3;obtain ⟨av,ar,ap⟩:=bO ab;clear ak bb
 rw [hc]
 go_wp2_with fail;refine aK w zB fun bb=>?_;refine (jv h _).mono ?_;rintro _ w2 ⟨rfl,al⟩;have a6:Below w w w2:=bT bb al;have b8:=al.size;(try simp at b8);have A:=q4 al (b:=w);(first|simp [go_sem,m,u,a3,ab,ap,a8,D,y] at A|simp [go_sem] at A|skip);(try clear m H G y);(try clear u J I D);(try clear a3 am aj a8);(try clear ab av ar ap);obtain ⟨m,u,a3,ab⟩:=A;obtain ⟨H,G,y⟩:=bO m;obtain ⟨J,I,D⟩:=bO u;obtain ⟨am,aj,a8⟩:=bO a3;obtain ⟨av,ar,ap⟩:=bO ab;clear al bb
 rw [hh]
 go_upto_region 3 with fail
 refine iT [[],[],[1],[],[0,1,2,3],[0,1,2,3,4],[0,1,2,3,4,5],[0,1,2,3,4,5],[0,1,2,3,4,5],[],[],[0,1,2,3,4,5,6,9],[0,1,2,3,4,5,7,10],[0,1,2,3,4,5,8]] [25,26,27,28,29,24,30,31,32,9,10,11] (fun l s wx=>(Below w2 w2 wx)∧(l 0=true→s 25=.func (.func F) #[] #[])∧(l 1=true→s 26=.agg (aF c (.slice a c.cells p) (.slice b c.words q)))∧(l 2=true→l 4=false→s 27=.agg (aF c (s 1001) (s 1002))∧aD wx w2 (s 1001) c.cells∧aG wx w2 (s 1002) c.words)∧(l 3=true→s 28=.agg (aB h))∧(l 4=true→s 29=.tuple #[.agg (aF x.1 (s 1003) (s 1004)),.agg (aB x.2.1),.bool x.2.2]∧aD wx w2 (s 1003) x.1.cells∧aG wx w2 (s 1004) x.1.words)∧(l 5=true→s 24=.tuple #[.agg (aF x.1 (s 1003) (s 1004)),.agg (aB x.2.1),.bool x.2.2])∧(l 6=true→s 30=.agg (aF x.1 (s 1003) (s 1004)))∧(l 7=true→s 31=.agg (aB x.2.1))∧(l 8=true→s 32=.bool x.2.2)∧(l 9=true→iI wx (s 9) w2 (cond (l 11) (aF x.1 (s 1003) (s 1004)) (aF Ch.zero (.slice none 0 0) (.slice none 0 0))) 31)∧(l 10=true→iI wx (s 10) w2 (cond (l 12) (aB x.2.1) (aB Ha.zero)) 49)∧(l 13=true→s 11=.bool x.2.2)) (fun s=>⟨(Below.refl _ _).drew,nB,nB,nB,nB,nB,nB,nB,nB,nB,nB,nB,nB⟩) ?_ ?_
 refine ⟨?_,?_,?_,?_,?_,?_,?_,?_,?_,?_,?_,?_,?_,?_,trivial⟩;iterate 14 (intro l s wx hl hd hn L K hK;rotate_left)
 ·intro l s w8 a5 L
  have hB:=L.1
  obtain ⟨_,a9,aa⟩:=((jC L).2.1 (a5 4 rfl))
  obtain ⟨gc,ea,bh,M⟩:=((jD L).2.2.1 (a5 9 rfl))
  obtain ⟨gh,eb,bi,N⟩:=((jD L).2.2.2.1 (a5 10 rfl))
  have ec:=((jC (jD L)) (a5 13 rfl))
  rw [a5 11 rfl] at M
  rw [a5 12 rfl] at N
  dsimp only [cond] at M N
  simp only [ea,eb,ec]
  clear ea eb ec L a5
  generalize s 1003=v1 at *
  generalize s 1004=v2 at *
  have ba:Below w w w8:=bT a6 hB
  have z8:=eP u hB
  have z9:=eP m hB
  have bj:=(bO m).2.2
  clear ab av ar ap a3 am aj a8 u J I D m H G y
  have u:=z8
  have m:=z9
  clear z8 z9
  have bk:=hB.size
  have bc:w.heap.size+1+1<gc:=by omega
  have be:w.heap.size+1+1+1<gc:=by omega
  have bf:w.heap.size+1+1<gh:=by omega
  have bg:w.heap.size+1+1+1<gh:=by omega
  clear b6
  obtain ⟨c2,h2,ok⟩:=x
  replace a9:aD w8 (w+1+1+1+1) v1 c2.cells:=aH a9 tO
  replace aa:aG w8 (w+1+1+1+1) v2 c2.words:=aH aa tO
  dsimp only at M N ⊢
  obtain ⟨ya,yp,rfl,G1⟩:=a9.seg
  obtain ⟨yb,yq,rfl,G2⟩:=aa.seg
  obtain ⟨a1,Z,U⟩:=bO M
  obtain ⟨a2,a0,V⟩:=bO N
  obtain ⟨J,I,D⟩:=bO u
  obtain ⟨H,G,y⟩:=bO m
  have L1:=Ib a9
  have L2:=Ib aa
  have K1:=aA G1
  have K2:=aA G2
  clear G1 G2
  have T:=aA fun W=>gV W w (.slice none 0 0) (.slice none 0 0)
  have d1:∀ j,(Value.slice none 0 0).ownBlock=some j→w.heap.size+1+1+1+1≤j:=fun j hj=>by cases hj
  have d2:=d1
  cases an:aW c2 with
  | false =>
   have E:X=nothing:=ac.trans (by simp [mD,an])
   rw [← E] at T
   clear E ac
   go_wp2_with fail
   refine (jX c2 ya yb yp yq _ ((K1.out.below zB).more tS) ((K2.out.below zB).more tS) L1 L2).mono ?_
   rintro _ w9 ⟨rfl,O⟩
   have aw:Below w w w9:=bT zB O
   have ax:Below w8 w8 w9:=bT zB O
   have a7:=O.size;(try (simp at a7));have A:=hQ O (b:=gc);(first|(simp [go_sem,M,U] at A)|(simp [go_sem] at A));(try clear a1 Z);(try clear M);have M:=A;clear A;(try clear U);obtain ⟨a1,Z,U⟩:=bO M;have A:=hQ O (b:=gh);(first|(simp [go_sem,N,V] at A)|(simp [go_sem] at A));(try clear a2 a0);(try clear N);have N:=A;clear A;(try clear V);obtain ⟨a2,a0,V⟩:=bO N;have A:=hQ O (b:=w+1+1);(first|(simp [go_sem,u,D] at A)|(simp [go_sem] at A));(try clear J I);(try clear u);have u:=A;clear A;(try clear D);obtain ⟨J,I,D⟩:=bO u;have A:=hQ O (b:=w+1+1+1);(first|(simp [go_sem,m,y] at A)|(simp [go_sem] at A));(try clear H G);(try clear m);have m:=A;clear A;(try clear y);obtain ⟨H,G,y⟩:=bO m
   rw [an]
   go_wp2_with fail
   refine (T.out _).mono ?_
   rintro _ b5 ⟨⟨y1,y2,rfl,ah,ai,az,b0⟩,Y⟩
   have b4:Below w w b5:=bT zB Y
   have ag:=Y.size;(try (simp at ag));have A:=hQ Y (b:=w+1+1);(first|(simp [go_sem,u,D] at A)|(simp [go_sem] at A));(try clear J I);(try clear u);have u:=A;clear A;(try clear D);obtain ⟨J,I,D⟩:=bO u;have A:=hQ Y (b:=w+1+1+1);(first|(simp [go_sem,m,y] at A)|(simp [go_sem] at A));(try clear H G);(try clear m);have m:=A;clear A;(try clear y);obtain ⟨H,G,y⟩:=bO m
   obtain ⟨⟨ad,ae⟩,b1,b2⟩:=mW (w:=w) (w+1+1+1+1) az b0 d1 d2;obtain ⟨ya,yp,rfl,_⟩:=ah.seg;obtain ⟨yb,yq,rfl,_⟩:=ai.seg
   go_wp2
   refine rE results236 rfl (aO X.1 (.slice ya X.1.cells yp) (.slice yb X.1.words yq) tY) rfl (aJ X.2.1 tY) ⟨⟨_,_,rfl,?_,?_,b1,b2⟩,by exact zB⟩
   ·exact zP ah ah ad
   ·exact zP ai ai ae
  | true =>
   cases au:bM h2 with
   | false =>
    have E:X=nothing:=ac.trans (by simp [mD,au])
    rw [← E] at T
    clear E ac
    go_wp2_with fail
    refine (jX c2 ya yb yp yq _ ((K1.out.below zB).more tS) ((K2.out.below zB).more tS) L1 L2).mono ?_
    rintro _ w9 ⟨rfl,O⟩
    have aw:Below w w w9:=bT zB O
    have ax:Below w8 w8 w9:=bT zB O
    have a7:=O.size;(try (simp at a7));have A:=hQ O (b:=gc);(first|(simp [go_sem,M,U] at A)|(simp [go_sem] at A));(try clear a1 Z);(try clear M);have M:=A;clear A;(try clear U);obtain ⟨a1,Z,U⟩:=bO M;have A:=hQ O (b:=gh);(first|(simp [go_sem,N,V] at A)|(simp [go_sem] at A));(try clear a2 a0);(try clear N);have N:=A;clear A;(try clear V);obtain ⟨a2,a0,V⟩:=bO N;have A:=hQ O (b:=w+1+1);(first|(simp [go_sem,u,D] at A)|(simp [go_sem] at A));(try clear J I);(try clear u);have u:=A;clear A;(try clear D);obtain ⟨J,I,D⟩:=bO u;have A:=hQ O (b:=w+1+1+1);(first|(simp [go_sem,m,y] at A)|(simp [go_sem] at A));(try clear H G);(try clear m);have m:=A;clear A;(try clear y);obtain ⟨H,G,y⟩:=bO m
    rw [an]
    go_wp2_with fail
    refine (jv h2 _).mono ?_
    rintro _ aq ⟨rfl,R⟩
    have b3:Below w w aq:=bT zB R
    have a4:Below w8 w8 aq:=bT zB R
    have af:=R.size;(try (simp at af));have A:=hQ R (b:=gc);(first|(simp [go_sem,M,U] at A)|(simp [go_sem] at A));(try clear a1 Z);(try clear M);have M:=A;clear A;(try clear U);obtain ⟨a1,Z,U⟩:=bO M;have A:=hQ R (b:=gh);(first|(simp [go_sem,N,V] at A)|(simp [go_sem] at A));(try clear a2 a0);(try clear N);have N:=A;clear A;(try clear V);obtain ⟨a2,a0,V⟩:=bO N;have A:=hQ R (b:=w+1+1);(first|(simp [go_sem,u,D] at A)|(simp [go_sem] at A));(try clear J I);(try clear u);have u:=A;clear A;(try clear D);obtain ⟨J,I,D⟩:=bO u;have A:=hQ R (b:=w+1+1+1);(first|(simp [go_sem,m,y] at A)|(simp [go_sem] at A));(try clear H G);(try clear m);have m:=A;clear A;(try clear y);obtain ⟨H,G,y⟩:=bO m
    rw [au]
    have r1:=own_below a9 a4
    have r2:=own_below aa a4
    go_wp2_with fail
    refine (T.out _).mono ?_
    rintro _ b5 ⟨⟨y1,y2,rfl,ah,ai,az,b0⟩,Y⟩
    have b4:Below w w b5:=bT zB Y
    have ag:=Y.size;(try (simp at ag));have A:=hQ Y (b:=w+1+1);(first|(simp [go_sem,u,D] at A)|(simp [go_sem] at A));(try clear J I);(try clear u);have u:=A;clear A;(try clear D);obtain ⟨J,I,D⟩:=bO u;have A:=hQ Y (b:=w+1+1+1);(first|(simp [go_sem,m,y] at A)|(simp [go_sem] at A));(try clear H G);(try clear m);have m:=A;clear A;(try clear y);obtain ⟨H,G,y⟩:=bO m
    obtain ⟨⟨ad,ae⟩,b1,b2⟩:=mW (w:=w) (w+1+1+1+1) az b0 d1 d2;obtain ⟨ya,yp,rfl,_⟩:=ah.seg;obtain ⟨yb,yq,rfl,_⟩:=ai.seg
    go_wp2
    refine rE results236 rfl (aO X.1 (.slice ya X.1.cells yp) (.slice yb X.1.words yq) tY) rfl (aJ X.2.1 tY) ⟨⟨_,_,rfl,?_,?_,b1,b2⟩,by exact zB⟩
    ·exact zP ah ah ad
    ·exact zP ai ai ae
   | true =>
    have E:=aA (ac.trans (show mD (c2,h2,ok)=(c2,h2,ok) by simp [mD,an,au]))
    clear ac
    go_wp2_with fail
    refine (jX c2 ya yb yp yq _ ((K1.out.below zB).more tS) ((K2.out.below zB).more tS) L1 L2).mono ?_
    rintro _ w9 ⟨rfl,O⟩
    have aw:Below w w w9:=bT zB O
    have ax:Below w8 w8 w9:=bT zB O
    have a7:=O.size;(try (simp at a7));have A:=hQ O (b:=gc);(first|(simp [go_sem,M,U] at A)|(simp [go_sem] at A));(try clear a1 Z);(try clear M);have M:=A;clear A;(try clear U);obtain ⟨a1,Z,U⟩:=bO M;have A:=hQ O (b:=gh);(first|(simp [go_sem,N,V] at A)|(simp [go_sem] at A));(try clear a2 a0);(try clear N);have N:=A;clear A;(try clear V);obtain ⟨a2,a0,V⟩:=bO N;have A:=hQ O (b:=w+1+1);(first|(simp [go_sem,u,D] at A)|(simp [go_sem] at A));(try clear J I);(try clear u);have u:=A;clear A;(try clear D);obtain ⟨J,I,D⟩:=bO u;have A:=hQ O (b:=w+1+1+1);(first|(simp [go_sem,m,y] at A)|(simp [go_sem] at A));(try clear H G);(try clear m);have m:=A;clear A;(try clear y);obtain ⟨H,G,y⟩:=bO m
    rw [an]
    go_wp2_with fail
    refine (jv h2 _).mono ?_
    rintro _ aq ⟨rfl,R⟩
    have b3:Below w w aq:=bT zB R
    have a4:Below w8 w8 aq:=bT zB R
    have af:=R.size;(try (simp at af));have A:=hQ R (b:=gc);(first|(simp [go_sem,M,U] at A)|(simp [go_sem] at A));(try clear a1 Z);(try clear M);have M:=A;clear A;(try clear U);obtain ⟨a1,Z,U⟩:=bO M;have A:=hQ R (b:=gh);(first|(simp [go_sem,N,V] at A)|(simp [go_sem] at A));(try clear a2 a0);(try clear N);have N:=A;clear A;(try clear V);obtain ⟨a2,a0,V⟩:=bO N;have A:=hQ R (b:=w+1+1);(first|(simp [go_sem,u,D] at A)|(simp [go_sem] at A));(try clear J I);(try clear u);have u:=A;clear A;(try clear D);obtain ⟨J,I,D⟩:=bO u;have A:=hQ R (b:=w+1+1+1);(first|(simp [go_sem,m,y] at A)|(simp [go_sem] at A));(try clear H G);(try clear m);have m:=A;clear A;(try clear y);obtain ⟨H,G,y⟩:=bO m
    rw [au]
    have r1:=own_below a9 a4
    have r2:=own_below aa a4
    go_wp2_with fail
    go_region
    go_wp2
    refine rE results236 rfl (aO c2 (.slice ya c2.cells yp) (.slice yb c2.words yq) tY) rfl (aJ h2 tY) ⟨⟨.slice ya c2.cells yp,.slice yb c2.words yq,by rw [E.out];rfl,?_,?_,fun j hj=>.inr (by have:=(a9.lt j hj).1;omega),fun j hj=>.inr (by have:=(aa.lt j hj).1;omega)⟩,by exact zB⟩
    ·rw [E.out]
     refine aH (lo:=w+1+1+1+1) ?_ tO
     exact zO r1 a9
    ·rw [E.out]
     refine aH (lo:=w+1+1+1+1) ?_ tO
     exact zO r2 aa
 ·go_simp
  refine hK.out (upd s 25 (.func (.func F) #[] #[])) _ _ (by simp [aC] <;> rfl) (kA (kX (fun _=>rfl) id) L.out)
 ·have z:=eP ab L.out.1
  go_simp
  refine hK.out (upd s 26 (.agg (aF c (.slice a c.cells p) (.slice b c.words q)))) _ _ (by simp [aC] <;> rfl) (kB (kX (fun _=>rfl) id) L.out)
 ·have e1:=(L.out.2.2.1 (hd 1 rfl))
  go_simp
  go_at_call 101
  refine (uG c a b p q _ ((H1.out.below (bT a6 L.out.1)).more (Below.size (bT a6 L.out.1))) Z1.out ((H2.out.below (bT a6 L.out.1)).more (Below.size (bT a6 L.out.1))) Z2.out m1 m2).mono ?_
  rintro _ wy ⟨⟨v1,v2,rfl,X1,X2⟩,hE⟩
  refine hK.out (upd (upd (upd s 1001 (v1)) 1002 (v2)) 27 (.agg (aF c v1 v2))) _ _ (by simp [aC,e1] <;> rfl) ⟨bT L.out.1 hE,L.out.2.1,L.out.2.2.1,fun _ _=>⟨rfl,aH X1 (Below.size L.out.1),aH X2 (Below.size L.out.1)⟩,L.out.2.2.2.2.1,nU (hn 4 rfl),nU (hn 5 rfl),nU (hn 6 rfl),nU (hn 7 rfl),nU (hn 8 rfl),fun h=>iI.below ((jD L.out).2.2.1 h) hE,fun h=>iI.below ((jD L.out).2.2.2.1 h) hE,nU (hn 13 rfl)⟩
 ·have z:=eP a3 L.out.1
  go_simp
  refine hK.out (upd s 28 (.agg (aB h))) _ _ (by simp [aC] <;> rfl) (kC (kX (fun _=>rfl) id) L.out)
 ·have e0:=(L.out.2.1 (hd 0 rfl))
  have e3:=(L.out.2.2.2.2.1 (hd 3 rfl))
  obtain ⟨e2,o1,o2⟩:=(L.out.2.2.2.1 (hd 2 rfl)) hl
  go_simp
  refine (b6.out _ _ w2 _ o1 o2 (Below.size L.out.1)).mono ?_
  rintro _ wy ⟨⟨y1,y2,rfl,X1,X2,_,_⟩,hO⟩
  refine hK.out (upd (upd (upd s 1003 (y1)) 1004 (y2)) 29 (.tuple #[.agg (aF x.1 y1 y2),.agg (aB x.2.1),.bool x.2.2])) _ _ (by simp [aC,e0,e3,e2] <;> rfl) ⟨I4 L.out.1 hO (fun j hj=>(o1.lt j hj).1) (fun j hj=>(o2.lt j hj).1),L.out.2.1,L.out.2.2.1,fun _ h4=>absurd h4 (by rw [show upd l 4 true 4=true from rfl];decide),L.out.2.2.2.2.1,fun _=>⟨rfl,X1,X2⟩,nU (hn 5 rfl),nU (hn 6 rfl),nU (hn 7 rfl),nU (hn 8 rfl),fun h=>by (have ee:l 11=false:=hn 11 rfl);(have F:=(jD L.out).2.2.1 h);rw [ee] at F;rw [show upd l 4 true 11=false from ee];exact F.onl hO o1 o2 (by decide) (by decide),fun h=>by (have ee:l 12=false:=hn 12 rfl);(have F:=(jD L.out).2.2.2.1 h);rw [ee] at F;rw [show upd l 4 true 12=false from ee];exact F.onl hO o1 o2 (by decide) (by decide),nU (hn 13 rfl)⟩
 ·have e4:=((jC L.out).2.1 (hd 4 rfl)).1
  go_simp
  refine hK.out (upd s 24 (.tuple #[.agg (aF x.1 (s 1003) (s 1004)),.agg (aB x.2.1),.bool x.2.2])) _ _ (by simp [aC,e4] <;> rfl) (kC (kB (kX (fun _=>rfl) id)) L.out)
 ·have e5:=((jC L.out).2.2.1 (hd 5 rfl))
  go_simp
  refine hK.out (upd s 30 (.agg (aF x.1 (s 1003) (s 1004)))) _ _ (by simp [aC,e5] <;> rfl) (kC (kB (kA (kX (fun _=>rfl) id))) L.out)
 ·have e5:=((jC L.out).2.2.1 (hd 5 rfl))
  go_simp
  refine hK.out (upd s 31 (.agg (aB x.2.1))) _ _ (by simp [aC,e5] <;> rfl) (kD (kX (fun _=>rfl) id) L.out)
 ·have e5:=((jC L.out).2.2.1 (hd 5 rfl))
  go_simp
  refine hK.out (upd s 32 (.bool x.2.2)) _ _ (by simp [aC,e5] <;> rfl) (kD (kA (kX (fun _=>rfl) id)) L.out)
 ·go_simp
  refine hK.out (upd s 9 (.pointer (some ⟨wx,0,none⟩))) _ _ (by simp [aC] <;> rfl) (kX (bT L.out.1 (aS _ _)) (kB (kX (fun h=>fun h4=>(let ⟨e,X1,X2⟩:=(L.out.2.2.2.1 h) h4;⟨e,own_below X1 (aS _ _),own_below X2 (aS _ _)⟩)) (kA (kX (fun h=>(let ⟨e,X1,X2⟩:=((jC L.out).2.1 h);⟨e,own_below X1 (aS _ _),own_below X2 (aS _ _)⟩)) (kC (kX (fun _=>by rw [show upd l 9 true 11=false from hn 11 rfl];exact iI.new (Below.size L.out.1)) (kX (fun h=>iI.below ((jD L.out).2.2.2.1 h) (aS _ _)) id))))))) L.out)
 ·go_simp
  refine hK.out (upd s 10 (.pointer (some ⟨wx,0,none⟩))) _ _ (by simp [aC] <;> rfl) (kX (bT L.out.1 (aS _ _)) (kB (kX (fun h=>fun h4=>(let ⟨e,X1,X2⟩:=(L.out.2.2.2.1 h) h4;⟨e,own_below X1 (aS _ _),own_below X2 (aS _ _)⟩)) (kA (kX (fun h=>(let ⟨e,X1,X2⟩:=((jC L.out).2.1 h);⟨e,own_below X1 (aS _ _),own_below X2 (aS _ _)⟩)) (kC (kX (fun h=>iI.below ((jD L.out).2.2.1 h) (aS _ _)) (kX (fun _=>by rw [show upd l 10 true 12=false from hn 12 rfl];exact iI.new (Below.size L.out.1)) id))))))) L.out)
 ·have e6:=((jC L.out).2.2.2.1 (hd 6 rfl))
  have e4:=((jC L.out).2.1 (hd 4 rfl))
  have X1:=e4.2.1
  have X2:=e4.2.2
  clear e4
  obtain ⟨bb,eb,ao,zb⟩:=((jD L.out).2.2.1 (hd 9 rfl))
  rw [hl] at zb
  dsimp only [cond] at zb
  obtain ⟨xa,xp,ea,_⟩:=X1.seg
  obtain ⟨xb,xq,ay,_⟩:=X2.seg
  rw [ea,ay] at e6
  have zn:hp (dF wx bb (aF x.1 (.slice xa x.1.cells xp) (.slice xb x.1.words xq))) bb=some (.cells (aF x.1 (s 1003) (s 1004)) 31):=by rw [ea,ay];exact ib zb
  go_simp
  refine hK.out (s) _ _ (by simp [aC,eb,e6,ea,ay] <;> rfl) (kX (BK L.out.1 ao) (kB (kX (fun _ h4=>absurd ((hd 4 rfl).symm.trans h4) (by decide)) (kA (kX (fun h=>⟨((jC L.out).2.1 h).1,dI ((jC L.out).2.1 h).2.1 zb (by decide),dI ((jC L.out).2.1 h).2.2 zb (by decide)⟩) (kC (kX (fun _=>⟨bb,eb,ao,zn⟩) (kX (fun h=>iI.far ((jD L.out).2.2.2.1 h) zb (by decide)) id))))))) L.out)
 ·have e7:=((jD L.out).1 (hd 7 rfl))
  have e4:=((jC L.out).2.1 (hd 4 rfl))
  have X1:=e4.2.1
  have X2:=e4.2.2
  clear e4
  obtain ⟨bb,eb,ao,zb⟩:=((jD L.out).2.2.2.1 (hd 10 rfl))
  rw [hl] at zb
  dsimp only [cond] at zb
  have zn:hp (dF wx bb (aB x.2.1)) bb=some (.cells (aB x.2.1) 49):=by exact ib zb
  go_simp
  refine hK.out (s) _ _ (by simp [aC,eb,e7] <;> rfl) (kX (BK L.out.1 ao) (kB (kX (fun _ h4=>absurd ((hd 4 rfl).symm.trans h4) (by decide)) (kA (kX (fun h=>⟨((jC L.out).2.1 h).1,dI ((jC L.out).2.1 h).2.1 zb (by decide),dI ((jC L.out).2.1 h).2.2 zb (by decide)⟩) (kC (kX (fun h=>iI.far ((jD L.out).2.2.1 h) zb (by decide)) (kX (fun _=>⟨bb,eb,ao,zn⟩) id))))))) L.out)
 ·have e8:=((jD L.out).2.1 (hd 8 rfl))
  go_simp
  refine hK.out (upd s 11 (.bool x.2.2)) _ _ (by simp [aC,e8] <;> rfl) (kD (kC (fun _=>fun _=>rfl)) L.out)
theorem nE (F:Nat) (c:Ch) (h:Ha) (a b:Option Addr) (p q:Nat) (w:World) (h1:fA w w a c.cells) (z1:a=none→p=0) (R:fD w w b c.words) (z2:b=none→q=0) (l1:c.cells.length≤maxLen) (l2:c.words.length≤maxLen) (hc:aW c=false) :
  Calls prog 236 #[.func (.func F) #[] #[],.agg (aF c (.slice a c.cells p) (.slice b c.words q)),.agg (aB h)] w fun r w'=>dE w w' nothing r:=by
 have X:=aA h1
 have Y:=aA R
 have T:=aA fun W=>gV W w (.slice none 0 0) (.slice none 0 0)
 generalize nothing=x at *
 clear h1 R z1 z2
 have O:∀ j,(Value.slice none 0 0).ownBlock=some j→w.heap.size+1+1+1+1≤j:=fun j hj=>by cases hj
 have Z:=O
 go_enter func236,ntmps236
 go_wp2_with fail;refine aK w zB fun z=>?_;refine (jX c a b p q _ (aT X z) (aT Y z) l1 l2).mono ?_;rintro _ w1 ⟨rfl,m⟩;obtain ⟨U,H,y⟩:=fH z m (b:=w);(try simp at H);(try simp [go_sem] at y);replace N:=dW y;clear y m z
 rw [hc]
 go_wp2_with fail;refine aK w zB fun z=>?_;refine (T.out _).mono ?_;rintro _ w9 ⟨⟨y1,y2,rfl,E,G,J,K⟩,u⟩;obtain ⟨V,I,y⟩:=fH z u (b:=w);(try simp at I);(first|simp [go_sem,N] at y|simp [go_sem] at y|skip);replace N:=dW y;clear y u z
 obtain ⟨⟨A,D⟩,L,M⟩:=mW (w:=w) (w+1+1+1+1) J K O Z;obtain ⟨ya,yp,rfl,_⟩:=E.seg;obtain ⟨yb,yq,rfl,_⟩:=G.seg
 go_wp2
 refine rE results236 rfl (aO x.1 (.slice ya x.1.cells yp) (.slice yb x.1.words yq) tY) rfl (aJ x.2.1 tY) ⟨⟨_,_,rfl,?_,?_,L,M⟩,by exact zB⟩
 ·exact zP E E A
 ·exact zP G G D
theorem nG (F:Nat) (c:Ch) (h:Ha) (a b:Option Addr) (p q:Nat) (w:World) (h1:fA w w a c.cells) (z1:a=none→p=0) (V:fD w w b c.words) (z2:b=none→q=0) (l1:c.cells.length≤maxLen) (l2:c.words.length≤maxLen) (hc:aW c=true) (hh:bM h=false) :
  Calls prog 236 #[.func (.func F) #[] #[],.agg (aF c (.slice a c.cells p) (.slice b c.words q)),.agg (aB h)] w fun r w'=>dE w w' nothing r:=by
 have H1:=aA h1
 have H2:=aA V
 have T:=aA fun W=>gV W w (.slice none 0 0) (.slice none 0 0)
 generalize nothing=x at *
 clear h1 V z1 z2
 have U:∀ j,(Value.slice none 0 0).ownBlock=some j→w.heap.size+1+1+1+1≤j:=fun j hj=>by cases hj
 have d2:=U
 go_enter func236,ntmps236
 go_wp2_with fail;refine aK w zB fun u=>?_;refine (jX c a b p q _ (aT H1 u) (aT H2 u) l1 l2).mono ?_;rintro _ w1 ⟨rfl,y⟩;obtain ⟨X,I,m⟩:=fH u y (b:=w);(try simp at I);(try simp [go_sem] at m);replace L:=dW m;clear m y u
 rw [hc]
 go_wp2_with fail;refine aK w zB fun u=>?_;refine (jv h _).mono ?_;rintro _ w2 ⟨rfl,z⟩;obtain ⟨Y,J,m⟩:=fH u z (b:=w);(try simp at J);(first|simp [go_sem,L] at m|simp [go_sem] at m|skip);replace L:=dW m;clear m z u
 rw [hh]
 go_wp2_with fail;refine aK w zB fun u=>?_;refine (T.out _).mono ?_;rintro _ w9 ⟨⟨y1,y2,rfl,G,H,M,N⟩,A⟩;obtain ⟨Z,K,m⟩:=fH u A (b:=w);(try simp at K);(first|simp [go_sem,L] at m|simp [go_sem] at m|skip);replace L:=dW m;clear m A u
 obtain ⟨⟨D,E⟩,O,R⟩:=mW (w:=w) (w+1+1+1+1) M N U d2;obtain ⟨ya,yp,rfl,_⟩:=G.seg;obtain ⟨yb,yq,rfl,_⟩:=H.seg
 go_wp2
 refine rE results236 rfl (aO x.1 (.slice ya x.1.cells yp) (.slice yb x.1.words yq) tY) rfl (aJ x.2.1 tY) ⟨⟨_,_,rfl,?_,?_,O,R⟩,by exact zB⟩
 ·exact zP G G D
 ·exact zP H H E
end
section
open Go.RowKit
attribute [local simp] aP
attribute [local go_sem ↓] aQ bF aY bY aZ bZ aX bB aN aU
theorem OY (h:Ha) (w:World) (n1:(h.nxt == 1)=true):Calls prog 271 #[.agg (aB h)] w fun r w'=>r=.returned (.agg (aB { h with pos:=23 }))∧Below w w w':=by
 go_enter func271,ntmps271
 go_wp2_with fail;refine aK w zB fun y=>?_;refine (dL _ _ _).mono ?_;rintro _ D ⟨rfl,m⟩;obtain ⟨z,q,u⟩:=BM y m (b:=w);(try simp at q);(try simp [go_sem] at u);replace A:=uV u;clear u m y
 go_wp2
 exact bodyPost_ret (jy results271 rfl (aJ { h with pos:=23 } tZ)) rfl ⟨rfl,by exact zB⟩
theorem OZ (h:Ha) (w:World) (n1:(h.nxt == 1)=false) (H:(h.nxt == 2)=true) (F:eB h.code h.elem=true):Calls prog 271 #[.agg (aB h)] w fun r w'=>r=.returned (.agg (aB (anew h)))∧Below w w w':=by
 obtain ⟨y,q⟩:∃ y,anew h=y:=⟨_,rfl⟩
 have A:=aA fun W=>pX h F W
 rw [q] at A
 rw [q]
 clear q F
 go_enter func271,ntmps271
 go_wp2_with fail;refine aK w zB fun D=>?_;refine (A.out _).mono ?_;rintro _ I ⟨rfl,m⟩;obtain ⟨E,u,z⟩:=BM D m (b:=w);(try simp at u);(try simp [go_sem] at z);replace G:=uV z;clear z m D
 go_wp2
 exact bodyPost_ret (jy results271 rfl (aJ y tZ)) rfl ⟨rfl,by exact zB⟩
theorem Pb (h:Ha) (w:World) (n1:(h.nxt == 1)=false) (D:(h.nxt == 2)=false):Calls prog 271 #[.agg (aB h)] w fun r w'=>r=.returned (.agg (aB (aV 2 h.out)))∧Below w w w':=by
 go_enter func271,ntmps271
 go_wp2_with fail;refine aK w zB fun y=>?_;refine (iF _ _ _).mono ?_;rintro _ E ⟨rfl,m⟩;obtain ⟨z,q,u⟩:=BM y m (b:=w);(try simp at q);(try simp [go_sem] at u);replace A:=uV u;clear u m y
 go_wp2
 exact bodyPost_ret (jy results271 rfl (aJ (aV 2 h.out) tZ)) rfl ⟨rfl,by exact zB⟩
theorem mO (h:Ha) (w:World) (u:eB h.code h.elem=true) (y:0≤h.nxt∧h.nxt≤2):Calls prog 271 #[.agg (aB h)] w fun r w'=>r=.returned (.agg (aB (dP h)))∧Below w w w':=by
 by_cases h1:h.nxt=1
 ·rw [show dP h={ h with pos:=23 } by simp [dP,h1]]
  exact OY h w (by simpa using h1)
 by_cases m:h.nxt=2
 ·rw [show dP h=anew h by simp [dP,m]]
  exact OZ h w (by simpa using h1) (by simpa using m) u
 ·have q:h.nxt=0:=by omega
  rw [show dP h=aV 2 h.out by simp [dP,q]]
  exact Pb h w (by simpa using h1) (by simpa using m)
theorem wK (c:Ch) (h:Ha) (J K:Value) (lo:Nat) (w:World) (h1:aD w lo J c.cells) (E:aG w lo K c.words) (N:0≤c.fin∧c.fin≤40) :
  dG 269 c h J K lo w (({ c with fin:=c.fin+1 },{ h with grow:=c.fin,pos:=17 },true)):=by
 obtain ⟨z,H,A,I,rfl,rfl,L,M,T,U⟩:=rR h1 E
 clear h1 E
 have F:=L.out
 have G:=M.out
 go_enter func269,ntmps269
 go_wp2_with fail
 go_region_held3 (fun w'=>hp w' w=some (.cells (aF { c with fin:=c.fin+1 } (.slice z c.cells H) (.slice A c.words I)) 31)∧hp w' (w+1)=some (.cells (aB { h with grow:=c.fin }) 49))
  (first|(simp [*,go_sem]))
  (first|((go_at_call 247;refine aK w zB fun D=>?_;refine (dL _ _ _).mono ?_;rintro _ X ⟨rfl,q⟩;obtain ⟨r,u,y⟩:=fH D q (b:=w);(try simp at u);(try simp [go_sem] at y);replace V:=dW y;clear y;have m:=r;clear q D);have O:=own_below F m;have R:=own_below G m))
 go_wp2
 refine rE results269 rfl (aO { c with fin:=c.fin+1 } (.slice z c.cells H) (.slice A c.words I) tZ) rfl (aJ { h with grow:=c.fin,pos:=17 } tZ) ⟨⟨_,_,rfl,?_,?_,aM _ _,aM _ _⟩,dR zB⟩
 ·exact zO O F
 ·exact zO R G
theorem Du (c:Ch) (h:Ha) (G H:Value) (lo:Nat) (w:World) (h1:aD w lo G c.cells) (J:aG w lo H c.words) (hs:(h.seen != 3)=true) :
  dG 270 c h G H lo w (nothing):=by
 have T:=aA fun W=>gV W lo G H
 generalize nothing=x at *
 obtain ⟨K,q1,L,q2,rfl,rfl,o1,o2,M,N,m1,m2,R,Y,U,Z,V,a0,X,a3⟩:=Ep h1 J
 clear h1 J
 go_enter func270,ntmps270
 go_wp2_with fail
 refine (T.out _).mono ?_
 rintro _ w3 ⟨⟨y1,y2,rfl,u,y,A,D⟩,m⟩
 have O:jI (Value.slice K c.cells q1).ownBlock (Value.slice L c.words q2).ownBlock w w3:=gU (dR zB) (dR m)
 have z:=m.size;(try simp at z);have I:=BL m (b:=w);(try simp [go_sem] at I);replace bX:=dW I;clear I m
 obtain ⟨⟨q,r⟩,E,F⟩:=sO (w:=w) (w+1+1+1+1) A D M N;obtain ⟨ya,yp,rfl,_⟩:=u.seg;obtain ⟨yb,yq,rfl,_⟩:=y.seg
 go_wp2
 refine rE results270 rfl (aO x.1 (.slice ya x.1.cells yp) (.slice yb x.1.words yq) tY) rfl (aJ x.2.1 tY) ⟨⟨_,_,rfl,?_,?_,E,F⟩,by exact zN⟩
 ·exact zP u u q
 ·exact zP y y r
def QC (c:Ch) (h:Ha) (f st wt:Int) (y z:Ha):St:=if bQ c h.grow f st wt then (bK c h.grow f st wt,y,true) else (c,z,true)
theorem qM (c:Ch) (h:Ha) (v1 v2:Value) (lo:Nat) (w:World) (h1:aD w lo v1 c.cells) (h2:aG w lo v2 c.words) (ag:0≤h.grow) (ah:h.grow<c.cells.length) (hs:(h.seen != 3)=false) :
  (∀ (ht:bQ c h.grow 3 6 (cellAt c h.grow).t=true),Calls prog 270 #[.agg (aF c v1 v2),.agg (aB h)] w fun r w'=>dJ w w' lo v1 v2 ((bK c h.grow 3 6 (cellAt c h.grow).t,{ h with pos:=20 },true)) r) ∧
  (∀ (ht:bQ c h.grow 3 6 (cellAt c h.grow).t=false),Calls prog 270 #[.agg (aF c v1 v2),.agg (aB h)] w fun r w'=>dJ w w' lo v1 v2 ((bK c h.grow 3 6 (cellAt c h.grow).t,{ h with pos:=18 },true)) r):=by
 constructor
 case' left =>
  intro ht
  have mA:Hid (0=0):=rfl
 case' right =>
  intro ht
  have mB:Hid (0=0):=rfl
 all_goals
  obtain ⟨i,Y⟩:∃ i:Nat,h.grow=(i:Int):=⟨h.grow.toNat,by omega⟩
  have hi:i<c.cells.length:=by omega
  have an:(0:Int)≤(i:Int):=by omega
  have ao:(i:Int)<(c.cells.length:Int):=by omega
  have ap:=h1.ne h2
  obtain ⟨R,T,rfl,_⟩:=h2.seg
  obtain ⟨g,I,rfl,ak,ai,E,am⟩:=h1.open1 hi
  have O1:=aA h1
  have O2:=aA h2
  have aq:g<w.heap.size+1:=by omega
  have ar:g<w.heap.size+1+1:=by omega
  have au:g<w.heap.size+1+1+1:=by omega
  have az:g≠w.heap.size:=by omega
  have b0:g≠w.heap.size+1:=by omega
  have b1:g≠w.heap.size+1+1:=by omega
  have b2:g≠w.heap.size+1+1+1:=by omega
  have av:w.heap.size≠g:=by omega
  have aw:w.heap.size+1≠g:=by omega
  have ax:w.heap.size+1+1≠g:=by omega
  have ay:w.heap.size+1+1+1≠g:=by omega
  have hx:Hid (cellAt c h.grow=c.cells.getD i ⟨0,0,0⟩):=by simp [cellAt,Hid,Y]
  have c0:=E 0 tO
  have c1:=E 1 tO
  have c2:=E 2 tO
  simp only [C3.val,Nat.add_zero] at c0 c1 c2
  have ex:=hx.out
  rw [ex] at ht ⊢
  have T0:=fun W a b=>l8 c i 3 6 (c.cells.getD i ⟨0,0,0⟩).t (.slice (some ⟨g,0,none⟩) c.cells I) (.slice R c.words T) lo W a b hi
  rw [Y] at ht
  rw [show bK c h.grow 3 6 (c.cells.getD i ⟨0,0,0⟩).t=bK c i 3 6 (c.cells.getD i ⟨0,0,0⟩).t by rw [Y]]
  rw [ht] at T0
  clear hx ex E h1 h2 ht
  generalize c.cells.getD i ⟨0,0,0⟩=x0 at *
  obtain ⟨ss,e,t⟩:=x0
  simp only at T0 c0 c1 c2 ⊢
  have TN:=aA T0
  clear T0
  have o1:=O1.out
  have o2:=O2.out
  have a7:=aA Y
  clear Y ag ah
  go_enter func270,ntmps270
  have ab:some w.heap.size≠some g:=by simp;omega
  have ac:some (w.heap.size+1)≠some g:=by simp;omega
  have ad:some (w.heap.size+1+1)≠some g:=by simp;omega
  have ae:some (w.heap.size+1+1+1)≠some g:=by simp;omega
  go_upto_region 3 with fail
  first
  | (replace mA:=mA;refine iT [[],[],[1],[],[3],[],[5],[3,4,5,6],[3,4,5,6,7],[3,4,5,6,7,8],qB [8,9],qB [8,9,10]] [14,15,16,17,18,19,20,21,22,23,24,25] (fun l s D=>(l 10=false→Below w w D)∧(hp D w=some (.cells (aF c (.slice (some ⟨g,0,none⟩) c.cells I) (.slice R c.words T)) 31))∧(hp D (w+1)=some (.cells (aB h) 49))∧(hp D (w+1+1)=some (.cells (aF Ch.zero (.slice none 0 0) (.slice none 0 0)) 31))∧(hp D (w+1+1+1)=some (.cells (aB Ha.zero) 49))∧(l 0=true→s 14=.agg (aF c (.slice (some ⟨g,0,none⟩) c.cells I) (.slice R c.words T)))∧(l 1=true→s 15=.pointer (some ⟨w+1,8,none⟩))∧(l 2=true→s 16=.int .i64 i)∧(l 3=true→s 17=.pointer (some ⟨w,4,none⟩))∧(l 4=true→s 18=.slice (some ⟨g,0,none⟩) c.cells I)∧(l 5=true→s 19=.pointer (some ⟨w+1,8,none⟩))∧(l 6=true→s 20=.int .i64 i)∧(l 7=true→s 21=.pointer (some ⟨g,i*3,none⟩))∧(l 8=true→s 22=.pointer (some ⟨g,i*3+2,none⟩))∧(l 9=true→s 23=.int .i64 t)∧(l 10=true→s 24=.bool true∧Gr g w D∧aD D lo (.slice (some ⟨g,0,none⟩) c.cells I) (bK c i 3 6 t).cells∧aG D lo (.slice R c.words T) c.words)∧(l 11=true→s 25=.bool false)) (fun s=>⟨fun _=>by exact zB,by simp [go_sem],by simp [go_sem],by simp [go_sem],by simp [go_sem],nB,nB,nB,nB,nB,nB,nB,nB,nB,nB,nB,nB⟩) ?_ ?_)
  | (replace mB:=mB;refine iT [[],[],[1],[],[3],[],[5],[3,4,5,6],[3,4,5,6,7],[3,4,5,6,7,8],qB [8,9],qB [8,9,10]] [14,15,16,17,18,19,20,21,22,23,24,25] (fun l s D=>(l 10=false→Below w w D)∧(hp D w=some (.cells (aF c (.slice (some ⟨g,0,none⟩) c.cells I) (.slice R c.words T)) 31))∧(hp D (w+1)=some (.cells (aB h) 49))∧(hp D (w+1+1)=some (.cells (aF Ch.zero (.slice none 0 0) (.slice none 0 0)) 31))∧(hp D (w+1+1+1)=some (.cells (aB Ha.zero) 49))∧(l 0=true→s 14=.agg (aF c (.slice (some ⟨g,0,none⟩) c.cells I) (.slice R c.words T)))∧(l 1=true→s 15=.pointer (some ⟨w+1,8,none⟩))∧(l 2=true→s 16=.int .i64 i)∧(l 3=true→s 17=.pointer (some ⟨w,4,none⟩))∧(l 4=true→s 18=.slice (some ⟨g,0,none⟩) c.cells I)∧(l 5=true→s 19=.pointer (some ⟨w+1,8,none⟩))∧(l 6=true→s 20=.int .i64 i)∧(l 7=true→s 21=.pointer (some ⟨g,i*3,none⟩))∧(l 8=true→s 22=.pointer (some ⟨g,i*3+2,none⟩))∧(l 9=true→s 23=.int .i64 t)∧(l 10=true→s 24=.bool false∧Gr g w D∧aD D lo (.slice (some ⟨g,0,none⟩) c.cells I) (bK c i 3 6 t).cells∧aG D lo (.slice R c.words T) c.words)∧(l 11=true→s 25=.bool true)) (fun s=>⟨fun _=>by exact zB,by simp [go_sem],by simp [go_sem],by simp [go_sem],by simp [go_sem],nB,nB,nB,nB,nB,nB,nB,nB,nB,nB,nB,nB⟩) ?_ ?_)
  refine ⟨?_,?_,?_,?_,?_,?_,?_,?_,?_,?_,?_,?_,trivial⟩;iterate 12 (intro l s D hl Z U m K N;rotate_left)
  ·intro l s w5 X m
   obtain ⟨_,al,r1,r2⟩:=((jC (jD m)).2.2.2.1 (X 10 rfl))
   have a3:=m.2.1
   have H:=m.2.2.1
   have z:=m.2.2.2.1
   have u:=m.2.2.2.2.1
   have ec:=((jE m) (X 11 rfl))
   simp only [ec]
   clear m X ec
   obtain ⟨af,a9,a6⟩:=bO a3
   obtain ⟨a5,a4,a0⟩:=bO H
   obtain ⟨a1,V,L⟩:=bO z
   obtain ⟨O,M,F⟩:=bO u
   go_wp2_with fail
   go_region_held3 (fun w'=>hp w' w=some (.cells (aF c (.slice (some ⟨g,0,none⟩) c.cells I) (.slice R c.words T)) 31)∧hp w' (w+1)=some (.cells (aB h) 49))
    (first|(simp [*,go_sem]))
    (first|(go_at_call 247;refine (dL _ _ _).mono ?_;rintro _ w6 ⟨rfl,y⟩;have aj:Gr g w w6:=gT zG (rf y);have aa:=y.size;(try (simp at aa));have G:=hQ y (b:=w);(first|(simp [go_sem,a3,a6] at G)|(simp [go_sem] at G));(try clear af a9);(try clear a3);have a3:=G;clear G;(try clear a6);obtain ⟨af,a9,a6⟩:=bO a3;have G:=hQ y (b:=w+1);(first|(simp [go_sem,H,a0] at G)|(simp [go_sem] at G));(try clear a5 a4);(try clear H);have H:=G;clear G;(try clear a0);obtain ⟨a5,a4,a0⟩:=bO H;have G:=hQ y (b:=w+1+1);(first|(simp [go_sem,z,L] at G)|(simp [go_sem] at G));(try clear a1 V);(try clear z);have z:=G;clear G;(try clear L);obtain ⟨a1,V,L⟩:=bO z;have G:=hQ y (b:=w+1+1+1);(first|(simp [go_sem,u,F] at G)|(simp [go_sem] at G));(try clear O M);(try clear u);have u:=G;clear G;(try clear F);obtain ⟨O,M,F⟩:=bO u;have p1:aD w6 lo (.slice (some ⟨g,0,none⟩) c.cells I) (bK c i 3 6 t).cells:=own_below (zO r1 o1) y;have p2:aG w6 lo (.slice R c.words T) c.words:=own_below (zO r2 o2) y))
   go_wp2
   first
   | (replace mA:=mA;refine rE results270 rfl (aO (bK c i 3 6 t) (.slice (some ⟨g,0,none⟩) c.cells I) (.slice R c.words T) tZ) rfl (aJ { h with pos:=20 } tZ) ⟨⟨_,_,rfl,?_,?_,aM _ _,aM _ _⟩,mY (show w.grownBy _ (some g) from zG)⟩)
   | (replace mB:=mB;refine rE results270 rfl (aO (bK c i 3 6 t) (.slice (some ⟨g,0,none⟩) c.cells I) (.slice R c.words T) tZ) rfl (aJ { h with pos:=18 } tZ) ⟨⟨_,_,rfl,?_,?_,aM _ _,aM _ _⟩,mY (show w.grownBy _ (some g) from zG)⟩)
   ·show aD _ lo (.slice (some ⟨g,0,none⟩) c.cells I) (bK c i 3 6 t).cells
    exact zO p1 o1
   ·show aG _ lo (.slice R c.words T) c.words
    exact zO p2 o2
  ·have J:=m.out.1 (U 10 rfl)
   have zc:=m.out.2.1
   go_simp
   refine N.out (upd s 14 (.agg (aF c (.slice (some ⟨g,0,none⟩) c.cells I) (.slice R c.words T)))) _ _ (by simp [aC] <;> rfl) (kC (kA (kX (fun _=>rfl) id)) m.out)
  ·have J:=m.out.1 (U 10 rfl)
   go_simp
   refine N.out (upd s 15 (.pointer (some ⟨w+1,8,none⟩))) _ _ (by simp [aC] <;> rfl) (kC (kB (kX (fun _=>rfl) id)) m.out)
  ·have e1:=((jC m.out).2.2.1 (Z 1 rfl))
   have J:=m.out.1 (U 10 rfl)
   have zh:=m.out.2.2.1
   have q:D.cell? ⟨w+1,8,none⟩=some (.int .i64 i):=by rw [← a7.out];exact (bO zh).1 8
   go_simp
   refine N.out (upd s 16 (.int .i64 i)) _ _ (by simp [aC,e1] <;> rfl) (kC (kB (kA (kX (fun _=>rfl) id))) m.out)
  ·have J:=m.out.1 (U 10 rfl)
   go_simp
   refine N.out (upd s 17 (.pointer (some ⟨w,4,none⟩))) _ _ (by simp [aC] <;> rfl) (kD (kX (fun _=>rfl) id) m.out)
  ·have e3:=((jD m.out).1 (Z 3 rfl))
   have J:=m.out.1 (U 10 rfl)
   have zc:=m.out.2.1
   have q:=(bO zc).1 4
   go_simp
   refine N.out (upd s 18 (.slice (some ⟨g,0,none⟩) c.cells I)) _ _ (by simp [aC,e3] <;> rfl) (kD (kA (kX (fun _=>rfl) id)) m.out)
  ·have J:=m.out.1 (U 10 rfl)
   go_simp
   refine N.out (upd s 19 (.pointer (some ⟨w+1,8,none⟩))) _ _ (by simp [aC] <;> rfl) (kD (kB (kX (fun _=>rfl) id)) m.out)
  ·have e5:=((jD m.out).2.2.1 (Z 5 rfl))
   have J:=m.out.1 (U 10 rfl)
   have zh:=m.out.2.2.1
   have q:D.cell? ⟨w+1,8,none⟩=some (.int .i64 i):=by rw [← a7.out];exact (bO zh).1 8
   go_simp
   refine N.out (upd s 20 (.int .i64 i)) _ _ (by simp [aC,e5] <;> rfl) (kD (kB (kA (kX (fun _=>rfl) id))) m.out)
  ·have e4:=((jD m.out).2.1 (Z 4 rfl))
   have e6:=((jD m.out).2.2.2.1 (Z 6 rfl))
   have J:=m.out.1 (U 10 rfl)
   go_simp
   refine N.out (upd s 21 (.pointer (some ⟨g,i*3,none⟩))) _ _ (by simp [aC,e4,e6] <;> rfl) (kD (kC (kX (fun _=>rfl) id)) m.out)
  ·have e7:=((jC (jD m.out)).1 (Z 7 rfl))
   have J:=m.out.1 (U 10 rfl)
   go_simp
   refine N.out (upd s 22 (.pointer (some ⟨g,i*3+2,none⟩))) _ _ (by simp [aC,e7] <;> rfl) (kD (kC (kA (kX (fun _=>rfl) id))) m.out)
  ·have e8:=((jC (jD m.out)).2.1 (Z 8 rfl))
   have J:=m.out.1 (U 10 rfl)
   have y0:=(J.cell (p:=⟨g,i*3+2,none⟩) ai).trans c2
   go_simp
   refine N.out (upd s 23 (.int .i64 t)) _ _ (by simp [aC,e8] <;> rfl) (kD (kC (kB (kX (fun _=>rfl) id))) m.out)
  ·have e0:=((jC m.out).2.1 (Z 0 rfl))
   have e2:=((jC m.out).2.2.2.1 (Z 2 rfl))
   have e9:=((jC (jD m.out)).2.2.1 (Z 9 rfl))
   have J:=m.out.1 hl
   go_simp
   go_at_call 254
   refine (TN.out _ (own_below o1 J) (own_below o2 J)).mono ?_
   rintro _ wy ⟨rfl,p1,p2,A⟩
   first
   | (replace mA:=mA;refine N.out (upd s 24 (.bool true)) _ _ (by simp [aC,e0,e2,e9] <;> rfl) (kX (fun h9=>nU h9 (show upd l 10 true 10=true from rfl)) (kX ((bE A (bO m.out.2.1).2.2 ab).trans m.out.2.1) (kX ((bE A (bO m.out.2.2.1).2.2 ac).trans m.out.2.2.1) (kX ((bE A (bO m.out.2.2.2.1).2.2 ad).trans m.out.2.2.2.1) (kX ((bE A (bO m.out.2.2.2.2.1).2.2 ae).trans m.out.2.2.2.2.1) (kD (kB (kX (fun _=>⟨rfl,gT (rf J) A,p1,p2⟩) (fun _=>nU (U 11 rfl))))))))) m.out))
   | (replace mB:=mB;refine N.out (upd s 24 (.bool false)) _ _ (by simp [aC,e0,e2,e9] <;> rfl) (kX (fun h9=>nU h9 (show upd l 10 true 10=true from rfl)) (kX ((bE A (bO m.out.2.1).2.2 ab).trans m.out.2.1) (kX ((bE A (bO m.out.2.2.1).2.2 ac).trans m.out.2.2.1) (kX ((bE A (bO m.out.2.2.2.1).2.2 ad).trans m.out.2.2.2.1) (kX ((bE A (bO m.out.2.2.2.2.1).2.2 ae).trans m.out.2.2.2.2.1) (kD (kB (kX (fun _=>⟨rfl,gT (rf J) A,p1,p2⟩) (fun _=>nU (U 11 rfl))))))))) m.out))
  ·have a8:=((jC (jD m.out)).2.2.2.1 (Z 10 rfl)).1
   go_simp
   first
   | (replace mA:=mA;refine N.out (upd s 25 (.bool false)) _ _ (by simp [aC,a8] <;> rfl) (kE (fun _=>fun _=>rfl) m.out))
   | (replace mB:=mB;refine N.out (upd s 25 (.bool true)) _ _ (by simp [aC,a8] <;> rfl) (kE (fun _=>fun _=>rfl) m.out))
theorem Av (c:Ch) (h:Ha) (m q:Value) (lo:Nat) (w:World) (h1:aD w lo m c.cells) (z:aG w lo q c.words) (u:0≤h.grow) (y:h.grow<c.cells.length) (hs:(h.seen != 3)=false) (A:bQ c h.grow 3 6 (cellAt c h.grow).t=true) :
  Calls prog 270 #[.agg (aF c m q),.agg (aB h)] w fun r w'=>dJ w w' lo m q ((bK c h.grow 3 6 (cellAt c h.grow).t,{ h with pos:=20 },true)) r:=(qM c h m q lo w h1 z u y hs).1 A
theorem Aw (c:Ch) (h:Ha) (m q:Value) (lo:Nat) (w:World) (h1:aD w lo m c.cells) (z:aG w lo q c.words) (u:0≤h.grow) (y:h.grow<c.cells.length) (hs:(h.seen != 3)=false) (A:bQ c h.grow 3 6 (cellAt c h.grow).t=false) :
  Calls prog 270 #[.agg (aF c m q),.agg (aB h)] w fun r w'=>dJ w w' lo m q ((bK c h.grow 3 6 (cellAt c h.grow).t,{ h with pos:=18 },true)) r:=(qM c h m q lo w h1 z u y hs).2 A
def oh (c:Ch) (h:Ha):St:=if h.seen=3 then QC c h 3 6 (cellAt c h.grow).t { h with pos:=20 } { h with pos:=18 } else nothing
theorem Ay (c:Ch) (h:Ha) (u y:Value) (lo:Nat) (w:World) (h1:aD w lo u c.cells) (z:aG w lo y c.words) (m:0≤h.grow) (q:h.grow<c.cells.length) :
  dG 270 c h u y lo w (oh c h):=by
 by_cases hs:h.seen=3
 ·have e:(h.seen != 3)=false:=by simp [hs]
  cases r:bQ c h.grow 3 6 (cellAt c h.grow).t with
  | true =>
   rw [show oh c h=(bK c h.grow 3 6 (cellAt c h.grow).t,{ h with pos:=20 },true) by simp [oh,QC,hs,r]]
   exact Av c h u y lo w h1 z m q e r
  | false =>
   have:=Aw c h u y lo w h1 z m q e r
   rw [mo r] at this
   rw [show oh c h=(c,{ h with pos:=18 },true) by simp [oh,QC,hs,r]]
   exact this
 ·rw [show oh c h=nothing by simp [oh,hs]]
  exact Du c h u y lo w h1 z (by simpa using hs)
end
end Go.Proofs.YtffhjmepfojhnaaGreat
