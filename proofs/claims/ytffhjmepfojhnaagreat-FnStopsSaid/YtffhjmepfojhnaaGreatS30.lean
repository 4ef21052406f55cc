/-
  Steps of growing of the reference model, all cases, on hands and channels that are kept whole; lists lie in memory and hold at most 2 ^ 40 elements.
-/
import Derived.Test.YtffhjmepfojhnaaGreatS25
import Derived.Test.YtffhjmepfojhnaaGreatS27
import Derived.Test.YtffhjmepfojhnaaGreatS19
import Derived.Test.YtffhjmepfojhnaaGreatS28
import Derived.Test.YtffhjmepfojhnaaGreatS26
import Derived.Test.YtffhjmepfojhnaaGreatS17
import Derived.Test.YtffhjmepfojhnaaGreatS24
import Derived.Test.YtffhjmepfojhnaaGreatS03
set_option maxRecDepth 100000
set_option maxHeartbeats 4000000
set_option linter.unusedSimpArgs false
set_option linter.unusedVariables false
namespace Go.Proofs.YtffhjmepfojhnaaGreat
open _root_.Go.Proofs.Tryz
section
open Go.RowKit
attribute [local simp] aP
attribute [local go_sem ↓] aQ bF aY bY aZ bZ aX bB aN aU
theorem MH (c:Ch) (h:Ha) (a b:Option Addr) (p q:Nat) (w:World) (h1:fA w w a c.cells) (z1:a=none→p=0) (h2:fD w w b c.words) (z2:b=none→q=0) (hk:bJ c h 16 22 2=true) (a5:h.pos=16) :
  Calls prog 191 #[.agg (aF c (.slice a c.cells p) (.slice b c.words q)),.agg (aB h)] w fun r w'=>dE w w' (bP c h) r:=by
 obtain ⟨M,V,_,_⟩:=dC hk
 obtain ⟨n1,n2⟩:=eU M
 have m1:c.cells.length≤1099511627776:=by omega
 have m2:c.words.length≤1099511627776:=by omega
 have H1:=aA h1
 have H2:=aA h2
 have Z1:=aA z1
 have Z2:=aA z2
 have e:bP c h=done (iJ c h).1 (iJ c h).2:=by simp [bP,hk,a5]
 rw [e]
 have N:0≤c.fin∧c.fin≤40:=Mw M
 have K:=fun a1 a2 n1 n2 q1 q2 W=>Dk c h a1 a2 n1 n2 q1 q2 W N
 have D:=fun v1 v2 W=>bU (iJ c h).1 (iJ c h).2 v1 v2 w W
 rw [Di,Dj] at D
 generalize done (iJ c h).1 (iJ c h).2=x at *
 generalize (iJ c h).1=cb at *
 generalize (iJ c h).2=hb at *
 replace K:=aA K
 replace D:=aA D
 clear h1 h2 z1 z2 e M V n1 n2
 go_enter func191,ntmps191
 go_wp2_with fail;refine aK w zB fun y=>?_;refine (dS c h 16 22 2 a b p q _ (aT H1 y) (aT H2 y)).mono ?_;rintro _ w1 ⟨rfl,A⟩;obtain ⟨a6,O,u⟩:=fH y A (b:=w);(try simp at O);(try simp [go_sem] at u);replace L:=dW u;clear u A y
 rw [hk]
 go_wp2_with fail;refine aK w zB fun y=>?_;refine (dU c a b p q _ (aT H1 y) Z1.out (aT H2 y) Z2.out m1 m2).mono ?_;rintro _ w2 ⟨⟨v1,v2,rfl,X,Y⟩,E⟩;obtain ⟨a7,R,u⟩:=fH y E (b:=w);(try simp at R);(first|simp [go_sem,L] at u|simp [go_sem] at u|skip);replace L:=dW u;clear u E y
 have d1:=kG X (w+1+1+1+1)
 have d2:=kG Y (w+1+1+1+1)
 have p1:=aH (lo':=w) X tO
 have p2:=aH (lo':=w) Y tO
 obtain ⟨a1,q1,rfl,_⟩:=X.seg
 obtain ⟨a2,q2,rfl,_⟩:=Y.seg
 obtain ⟨k0,M,V,k3⟩:=mF (a:=w) (b:=w2)
 go_wp2_with fail;refine aK w zB fun y=>?_;refine aK w2 zB fun bk=>?_;refine (K.out _ _ _ _ _ _ _).mono ?_;rintro _ w4 ⟨rfl,m⟩;have a9:=bT y m;have U:=m.size;(try simp at U);have u:=And.intro (hQ m (b:=w2)) <| And.intro (hQ m (b:=w+1+1+1)) <| And.intro (hQ m (b:=w+1+1)) <| And.intro (hQ m (b:=w+1)) <| hQ m (b:=w);(first|simp [go_sem,L,k0,M,V,k3] at u|simp [go_sem] at u|skip);replace L:=ll u;clear u;have z:=bT bk m;clear m y bk
 have s1:=own_below p1 z
 have s2:=own_below p2 z
 go_wp2_with fail;refine aK w zB fun y=>?_;refine (D.out _ _ _ (zO s1 X) (zO s2 Y)).mono ?_;rintro _ w3 ⟨⟨y1,y2,rfl,I,J,Z,a0⟩,F⟩;obtain ⟨a8,T,u⟩:=fH y F (b:=w);(try simp at T);(first|simp [go_sem,L,k0,M,V,k3] at u|simp [go_sem] at u|skip);replace L:=dW u;clear u F y
 obtain ⟨⟨G,H⟩,a3,a4⟩:=mW (w:=w) (w+1+1+1+1) Z a0 d1 d2;obtain ⟨ya,yp,rfl,_⟩:=I.seg;obtain ⟨yb,yq,rfl,_⟩:=J.seg
 go_wp2
 refine rE results191 rfl (aO x.1 (.slice ya x.1.cells yp) (.slice yb x.1.words yq) tY) rfl (aJ x.2.1 tY) ⟨⟨_,_,rfl,?_,?_,a3,a4⟩,by exact zB⟩
 ·exact zP I I G
 ·exact zP J J H
theorem MI (c:Ch) (h:Ha) (a b:Option Addr) (p q:Nat) (w:World) (h1:fA w w a c.cells) (z1:a=none→p=0) (h2:fD w w b c.words) (z2:b=none→q=0) (hk:bJ c h 16 22 2=true) (a3:h.pos=19) :
  Calls prog 191 #[.agg (aF c (.slice a c.cells p) (.slice b c.words q)),.agg (aB h)] w fun r w'=>dE w w' (bP c h) r:=by
 obtain ⟨k1,k2,_,_⟩:=dC hk
 obtain ⟨n1,n2⟩:=eU k1
 have m1:c.cells.length≤1099511627776:=by omega
 have m2:c.words.length≤1099511627776:=by omega
 have H1:=aA h1
 have H2:=aA h2
 have Z1:=aA z1
 have Z2:=aA z2
 obtain ⟨c1,c2⟩:=nY k2
 have e:bP c h=iH c h:=by simp [bP,hk,a3]
 rw [e]
 have D:=aA fun v1 v2 W x1 x2=>FU c h v1 v2 w W x1 x2 c1 tO
 generalize iH c h=x at *
 clear h1 h2 z1 z2 e k1 k2 n1 n2 c1 c2
 go_enter func191,ntmps191
 go_wp2_with fail;refine aK w zB fun u=>?_;refine (dS c h 16 22 2 a b p q _ (aT H1 u) (aT H2 u)).mono ?_;rintro _ w1 ⟨rfl,y⟩;obtain ⟨a4,I,m⟩:=fH u y (b:=w);(try simp at I);(try simp [go_sem] at m);replace L:=dW m;clear m y u
 rw [hk]
 go_wp2_with fail;refine aK w zB fun u=>?_;refine (dU c a b p q _ (aT H1 u) Z1.out (aT H2 u) Z2.out m1 m2).mono ?_;rintro _ w2 ⟨⟨v1,v2,rfl,R,T⟩,z⟩;obtain ⟨a5,J,m⟩:=fH u z (b:=w);(try simp at J);(first|simp [go_sem,L] at m|simp [go_sem] at m|skip);replace L:=dW m;clear m z u
 have U:=kG R (w+1+1+1+1)
 have V:=kG T (w+1+1+1+1)
 have p1:=aH (lo':=w) R tO
 have p2:=aH (lo':=w) T tO
 obtain ⟨a1,q1,rfl,_⟩:=R.seg
 obtain ⟨a2,q2,rfl,_⟩:=T.seg
 have N:∀ j,j<w.heap.size+1+1+1+1→some j≠(Value.slice a1 c.cells q1).ownBlock:=fun j H e=>by have:=U _ e.symm;omega
 have O:∀ j,j<w.heap.size+1+1+1+1→some j≠(Value.slice a2 c.words q2).ownBlock:=fun j H e=>by have:=V _ e.symm;omega
 have a7:=N (w.heap.size) tO
 have ab:=O (w.heap.size) tO
 have a8:=N (w+1) tO
 have ac:=O (w+1) tO
 have a9:=N (w+1+1) tO
 have ad:=O (w+1+1) tO
 have aa:=N (w+1+1+1) tO
 have ae:=O (w+1+1+1) tO
 go_wp2_with fail
 refine (D.out _ _ _ (zO p1 R) (zO p2 T)).mono ?_
 rintro _ w3 ⟨⟨y1,y2,rfl,F,G,X,Y⟩,M⟩
 have a6:Below w w w3:=I4 zB M (fun j H=>by have:=U j H;omega) (fun j H=>by have:=V j H;omega)
 have K:=M.2.2.2.1;(try (simp at K));have m:=xD M (b:=w);(first|simp [go_sem,L] at m|simp [go_sem] at m|skip);replace L:=dW m;clear m
 clear M
 obtain ⟨⟨A,E⟩,Z,a0⟩:=mW (w:=w) (w+1+1+1+1) X Y U V;obtain ⟨ya,yp,rfl,_⟩:=F.seg;obtain ⟨yb,yq,rfl,_⟩:=G.seg
 go_wp2
 refine rE results191 rfl (aO x.1 (.slice ya x.1.cells yp) (.slice yb x.1.words yq) tY) rfl (aJ x.2.1 tY) ⟨⟨_,_,rfl,?_,?_,Z,a0⟩,by exact zB⟩
 ·exact zP F F A
 ·exact zP G G E
theorem xM (c:Ch) (h:Ha) (a b:Option Addr) (p q:Nat) (w:World) (h1:fA w w a c.cells) (y:a=none→p=0) (u:fD w w b c.words) (z:b=none→q=0) :
  Calls prog 191 #[.agg (aF c (.slice a c.cells p) (.slice b c.words q)),.agg (aB h)] w fun r w'=>dE w w' (bP c h) r:=by
 cases m:bJ c h 16 22 2 with
 | false=>exact Mt c h a b p q w h1 u m
 | true =>
  obtain ⟨D,_,E,F⟩:=dC m
  have hp:h.pos=16∨h.pos=17∨h.pos=18∨h.pos=19∨h.pos=20∨h.pos=21∨h.pos=22:=by omega
  rcases hp with hp|hp|hp|hp|hp|hp|hp
  ·exact MH c h a b p q w h1 y u z m hp
  ·by_cases hs:c.sent≤h.grow
   ·exact J6 c h a b p q w h1 y u z m hp hs
   ·exact J7 c h a b p q w h1 y u z m hp hs
  ·by_cases hs:(cellAt c h.grow).s=5
   ·exact JH c h a b p q w h1 y u z m hp hs
   ·exact JI c h a b p q w h1 y u z m hp (by simpa using hs)
  ·exact MI c h a b p q w h1 y u z m hp
  ·cases A:eY c h.wait 1 with
   | true=>exact J8 c h a b p q w h1 y u z m hp A
   | false=>exact J9 c h a b p q w h1 y u z m hp A
  ·exact MB c h a b p q w h1 y u z m hp
  ·exact MC c h a b p q w h1 y u z m hp
end
section
open Go.RowKit
attribute [local simp] aP
attribute [local go_sem ↓] aQ bF aY bY aZ bZ aX bB aN aU
theorem Pm (c:Ch) (h:Ha) (a b:Option Addr) (p q:Nat) (w:World) (h1:fA w w a c.cells) (U:a=none→p=0) (N:fD w w b c.words) (V:b=none→q=0) (J:1≤h.pos) (K:h.pos≤8) :
  Calls prog 173 #[.agg (aF c (.slice a c.cells p) (.slice b c.words q)),.agg (aB h)] w fun r w'=>dE w w' (fZ c h) r:=by
 have e:fZ c h=bI c h:=by simp [fZ,dA,J,K]
 rw [e]
 have X:=aA h1
 have Y:=aA N
 have Z:=aA U
 have Z2:=aA V
 have T:=aA fun W=>xJ c h a b p q W
 generalize bI c h=x at *
 clear h1 N U V e
 have M:∀ j,(Value.slice none 0 0).ownBlock=some j→w.heap.size+1+1+1+1≤j:=fun j hj=>by cases hj
 have d2:=M
 go_enter func173,ntmps173
 go_wp2_with fail;refine aK w zB fun E=>?_;refine (T.out _ (aT X E) Z.out (aT Y E) Z2.out).mono ?_;rintro _ R ⟨⟨y1,y2,rfl,m,u,F,G⟩,y⟩;obtain ⟨O,D,L⟩:=fH E y (b:=w);(try simp at D);(try simp [go_sem] at L);replace bX:=dW L;clear L y E
 replace m:aD R w y1 x.1.cells:=aH (lo':=w) m tS
 replace u:aG R w y2 x.1.words:=aH (lo':=w) u tS
 obtain ⟨⟨z,A⟩,H,I⟩:=mW (w:=w) (w+1+1+1+1) F G M d2;obtain ⟨ya,yp,rfl,_⟩:=m.seg;obtain ⟨yb,yq,rfl,_⟩:=u.seg
 go_wp2
 refine rE results173 rfl (aO x.1 (.slice ya x.1.cells yp) (.slice yb x.1.words yq) tY) rfl (aJ x.2.1 tY) ⟨⟨_,_,rfl,?_,?_,H,I⟩,by exact zB⟩
 ·exact zP m m z
 ·exact zP u u A
theorem Pn (c:Ch) (h:Ha) (a b:Option Addr) (p q:Nat) (w:World) (h1:fA w w a c.cells) (O:a=none→p=0) (L:fD w w b c.words) (R:b=none→q=0) (a0:9≤h.pos) (a1:h.pos≤15) :
  Calls prog 173 #[.agg (aF c (.slice a c.cells p) (.slice b c.words q)),.agg (aB h)] w fun r w'=>dE w w' (fZ c h) r:=by
 have e:fZ c h=bL c h:=by rw [fZ,if_neg (by simp [dA];omega),if_pos (by simp [dA];omega)]
 rw [e]
 have l1:1≤h.pos:=by omega
 have u8:¬ h.pos≤8:=by omega
 have U:=aA h1
 have V:=aA L
 have X:=aA O
 have Y:=aA R
 have T:=aA fun W=>xI c h a b p q W
 generalize bL c h=x at *
 clear h1 L O R e
 have K:∀ j,(Value.slice none 0 0).ownBlock=some j→w.heap.size+1+1+1+1≤j:=fun j hj=>by cases hj
 have Z:=K
 go_enter func173,ntmps173
 go_wp2_with fail;refine aK w zB fun E=>?_;refine (T.out _ (aT U E) X.out (aT V E) Y.out).mono ?_;rintro _ N ⟨⟨y1,y2,rfl,m,u,F,G⟩,y⟩;obtain ⟨M,D,J⟩:=fH E y (b:=w);(try simp at D);(try simp [go_sem] at J);replace bX:=dW J;clear J y E
 replace m:aD N w y1 x.1.cells:=aH (lo':=w) m tS
 replace u:aG N w y2 x.1.words:=aH (lo':=w) u tS
 obtain ⟨⟨z,A⟩,H,I⟩:=mW (w:=w) (w+1+1+1+1) F G K Z;obtain ⟨ya,yp,rfl,_⟩:=m.seg;obtain ⟨yb,yq,rfl,_⟩:=u.seg
 go_wp2
 refine rE results173 rfl (aO x.1 (.slice ya x.1.cells yp) (.slice yb x.1.words yq) tY) rfl (aJ x.2.1 tY) ⟨⟨_,_,rfl,?_,?_,H,I⟩,by exact zB⟩
 ·exact zP m m z
 ·exact zP u u A
theorem Po (c:Ch) (h:Ha) (a b:Option Addr) (p q:Nat) (w:World) (h1:fA w w a c.cells) (O:a=none→p=0) (L:fD w w b c.words) (R:b=none→q=0) (a0:16≤h.pos) (a1:h.pos≤22) :
  Calls prog 173 #[.agg (aF c (.slice a c.cells p) (.slice b c.words q)),.agg (aB h)] w fun r w'=>dE w w' (fZ c h) r:=by
 have e:fZ c h=bP c h:=by rw [fZ,if_neg (by simp [dA];omega),if_neg (by simp [dA];omega),if_pos (by simp [dA];omega)]
 rw [e]
 have l1:1≤h.pos:=by omega
 have l9:9≤h.pos:=by omega
 have u8:¬ h.pos≤8:=by omega
 have a2:¬ h.pos≤15:=by omega
 have U:=aA h1
 have V:=aA L
 have X:=aA O
 have Y:=aA R
 have T:=aA fun W=>xM c h a b p q W
 generalize bP c h=x at *
 clear h1 L O R e
 have K:∀ j,(Value.slice none 0 0).ownBlock=some j→w.heap.size+1+1+1+1≤j:=fun j hj=>by cases hj
 have Z:=K
 go_enter func173,ntmps173
 go_wp2_with fail;refine aK w zB fun E=>?_;refine (T.out _ (aT U E) X.out (aT V E) Y.out).mono ?_;rintro _ N ⟨⟨y1,y2,rfl,m,u,F,G⟩,y⟩;obtain ⟨M,D,J⟩:=fH E y (b:=w);(try simp at D);(try simp [go_sem] at J);replace bX:=dW J;clear J y E
 replace m:aD N w y1 x.1.cells:=aH (lo':=w) m tS
 replace u:aG N w y2 x.1.words:=aH (lo':=w) u tS
 obtain ⟨⟨z,A⟩,H,I⟩:=mW (w:=w) (w+1+1+1+1) F G K Z;obtain ⟨ya,yp,rfl,_⟩:=m.seg;obtain ⟨yb,yq,rfl,_⟩:=u.seg
 go_wp2
 refine rE results173 rfl (aO x.1 (.slice ya x.1.cells yp) (.slice yb x.1.words yq) tY) rfl (aJ x.2.1 tY) ⟨⟨_,_,rfl,?_,?_,H,I⟩,by exact zB⟩
 ·exact zP m m z
 ·exact zP u u A
theorem Pp (c:Ch) (h:Ha) (a b:Option Addr) (p q:Nat) (w:World) (h1:fA w w a c.cells) (O:a=none→p=0) (L:fD w w b c.words) (R:b=none→q=0) (a0:23≤h.pos) :
  Calls prog 173 #[.agg (aF c (.slice a c.cells p) (.slice b c.words q)),.agg (aB h)] w fun r w'=>dE w w' (fZ c h) r:=by
 have e:fZ c h=bV c h:=by rw [fZ,if_neg (by simp [dA];omega),if_neg (by simp [dA];omega),if_neg (by simp [dA];omega)]
 rw [e]
 have l1:1≤h.pos:=by omega
 have l9:9≤h.pos:=by omega
 have a1:16≤h.pos:=by omega
 have u8:¬ h.pos≤8:=by omega
 have a2:¬ h.pos≤15:=by omega
 have a3:¬ h.pos≤22:=by omega
 have U:=aA h1
 have V:=aA L
 have X:=aA O
 have Y:=aA R
 have T:=aA fun W=>qL c h a b p q W
 generalize bV c h=x at *
 clear h1 L O R e
 have K:∀ j,(Value.slice none 0 0).ownBlock=some j→w.heap.size+1+1+1+1≤j:=fun j hj=>by cases hj
 have Z:=K
 go_enter func173,ntmps173
 go_wp2_with fail;refine aK w zB fun E=>?_;refine (T.out _ (aT U E) X.out (aT V E) Y.out).mono ?_;rintro _ N ⟨⟨y1,y2,rfl,m,u,F,G⟩,y⟩;obtain ⟨M,D,J⟩:=fH E y (b:=w);(try simp at D);(try simp [go_sem] at J);replace bX:=dW J;clear J y E
 replace m:aD N w y1 x.1.cells:=aH (lo':=w) m tS
 replace u:aG N w y2 x.1.words:=aH (lo':=w) u tS
 obtain ⟨⟨z,A⟩,H,I⟩:=mW (w:=w) (w+1+1+1+1) F G K Z;obtain ⟨ya,yp,rfl,_⟩:=m.seg;obtain ⟨yb,yq,rfl,_⟩:=u.seg
 go_wp2
 refine rE results173 rfl (aO x.1 (.slice ya x.1.cells yp) (.slice yb x.1.words yq) tY) rfl (aJ x.2.1 tY) ⟨⟨_,_,rfl,?_,?_,H,I⟩,by exact zB⟩
 ·exact zP m m z
 ·exact zP u u A
theorem Pq (c:Ch) (h:Ha) (a b:Option Addr) (p q:Nat) (w:World) (h1:fA w w a c.cells) (O:a=none→p=0) (L:fD w w b c.words) (R:b=none→q=0) (a0:h.pos≤0) :
  Calls prog 173 #[.agg (aF c (.slice a c.cells p) (.slice b c.words q)),.agg (aB h)] w fun r w'=>dE w w' (fZ c h) r:=by
 have e:fZ c h=bV c h:=by rw [fZ,if_neg (by simp [dA];omega),if_neg (by simp [dA];omega),if_neg (by simp [dA];omega)]
 rw [e]
 have l1:¬ 1≤h.pos:=by omega
 have l9:¬ 9≤h.pos:=by omega
 have a1:¬ 16≤h.pos:=by omega
 have U:=aA h1
 have V:=aA L
 have X:=aA O
 have Y:=aA R
 have T:=aA fun W=>qL c h a b p q W
 generalize bV c h=x at *
 clear h1 L O R e
 have K:∀ j,(Value.slice none 0 0).ownBlock=some j→w.heap.size+1+1+1+1≤j:=fun j hj=>by cases hj
 have Z:=K
 go_enter func173,ntmps173
 go_wp2_with fail;refine aK w zB fun E=>?_;refine (T.out _ (aT U E) X.out (aT V E) Y.out).mono ?_;rintro _ N ⟨⟨y1,y2,rfl,m,u,F,G⟩,y⟩;obtain ⟨M,D,J⟩:=fH E y (b:=w);(try simp at D);(try simp [go_sem] at J);replace bX:=dW J;clear J y E
 replace m:aD N w y1 x.1.cells:=aH (lo':=w) m tS
 replace u:aG N w y2 x.1.words:=aH (lo':=w) u tS
 obtain ⟨⟨z,A⟩,H,I⟩:=mW (w:=w) (w+1+1+1+1) F G K Z;obtain ⟨ya,yp,rfl,_⟩:=m.seg;obtain ⟨yb,yq,rfl,_⟩:=u.seg
 go_wp2
 refine rE results173 rfl (aO x.1 (.slice ya x.1.cells yp) (.slice yb x.1.words yq) tY) rfl (aJ x.2.1 tY) ⟨⟨_,_,rfl,?_,?_,H,I⟩,by exact zB⟩
 ·exact zP m m z
 ·exact zP u u A
theorem om (c:Ch) (h:Ha) (a b:Option Addr) (p q:Nat) (w:World) (h1:fA w w a c.cells) (y:a=none→p=0) (m:fD w w b c.words) (z:b=none→q=0) :
  Calls prog 173 #[.agg (aF c (.slice a c.cells p) (.slice b c.words q)),.agg (aB h)] w fun r w'=>dE w w' (fZ c h) r:=by
 have hp:h.pos≤0∨(1≤h.pos∧h.pos≤8)∨(9≤h.pos∧h.pos≤15)∨(16≤h.pos∧h.pos≤22)∨23≤h.pos:=by omega
 rcases hp with hp|⟨hp,u⟩|⟨hp,u⟩|⟨hp,u⟩|hp
 ·exact Pq c h a b p q w h1 y m z hp
 ·exact Pm c h a b p q w h1 y m z hp u
 ·exact Pn c h a b p q w h1 y m z hp u
 ·exact Po c h a b p q w h1 y m z hp u
 ·exact Pp c h a b p q w h1 y m z hp
end
section
open Go.RowKit
attribute [local simp] aP
attribute [local go_sem ↓] aQ aY aZ gK aN
attribute [local go_sem] fF
theorem uL (x:Wo) (who:Int) (S:St) (a b d e:Option Addr) (p q r s:Nat) (w:World) (h1:fA w w a x.ch.cells) (z1:a=none→p=0) (h2:fD w w b x.ch.words) (Z:b=none→q=0) (h3:pF w w d x.hands) (z3:d=none→x.hands.length=0∧r=0) (h4:pG w w e x.deals) (z4:e=none→x.deals.length=0∧s=0) (m1:x.ch.cells.length≤1099511627776) (m2:x.ch.words.length≤1099511627776) (m3:x.hands.length≤1099511627776) (m4:x.deals.length≤1099511627776) (ht:cK x who=true) (hS:fZ x.ch (aL x who)=S) :
  (∀ (N:S.2.2=false),Calls prog 135 #[kZ x a b d e p q r s,.int .i64 who] w fun r w'=>fE w w' (stepW x who S).1 (.bool (stepW x who S).2) r) ∧
  (∀ (N:S.2.2=true) (Y:(x.now == 20000)=true),Calls prog 135 #[kZ x a b d e p q r s,.int .i64 who] w fun r w'=>fE w w' (stepW x who S).1 (.bool (stepW x who S).2) r):=by
 constructor
 case' left =>
  intro N
  have mA:Hid (0=0):=rfl
 case' right =>
  intro N Y
  have mB:Hid (0=0):=rfl
 all_goals
  have H1:=aA h1
  have H2:=aA h2
  have H3:=aA h3
  have H4:=aA h4
  have Z1:=aA z1
  have Z2:=aA Z
  have Z3:=aA z3
  have Z4:=aA z4
  clear h1 h2 h3 h4 z1 Z z3 z4
  obtain ⟨i,rfl⟩:∃ i:Nat,who=(i:Int):=⟨who.toNat,by simp [cK,eH,dA] at ht;omega⟩
  have hi:i<x.hands.length:=by simp [cK,eH,dA] at ht;omega
  obtain ⟨u,U,rfl,M,X⟩:∃ b o,d=some ⟨b,o,none⟩∧b<w.heap.size∧Hid (∀ i j,i<x.hands.length→j<14→w.cell? ⟨b,o+i*14+j,none⟩=some (dY x.hands i j)):=by
   rcases H3.out with h0|h0
   ·omega
   ·exact h0
  have a0:∀ W:World,hp W u=hp w u→(jU (.pointer (some ⟨u,U+i*14,none⟩))).run prog W=.ok (.agg (aB (aL x i))) W:=fun W e=>jh _ fun j hj=>by rw [show (aB (aL x i)).getD j (.int .i64 0)=dY x.hands i j by simp [dY,aL],← X.out i j hi hj];exact World.cell?_of_block e
  have a1:(0:Int)≤(i:Int):=by omega
  have a2:(i:Int)<(x.hands.length:Int):=by omega
  first
  | (replace mA:=mA;have V:stepW x i S=(x,false):=by simp [stepW,N])
  | (replace mB:=mB;have V:stepW x i S=(x,false):=by simp at Y;simp [stepW,Y])
  rw [V]
  clear V
  have T:=aA fun a b p q W=>om x.ch (aL x i) a b p q W
  rw [hS] at T
  clear hS
  have a3:u<w.heap.size+1:=by omega
  have a4:u<w.heap.size+1+1:=by omega
  have PD:u≠w.heap.size:=by omega
  have uV:u≠w.heap.size+1:=by omega
  go_enter func135,ntmps135
  go_wp2_with fail;refine aK w zB fun y=>?_;refine (T.out a b p q _ (aT H1 y) Z1.out (aT H2 y) Z2.out).mono ?_;rintro _ E ⟨⟨y1,y2,rfl,A,D,_,_⟩,F⟩;obtain ⟨K,O,G⟩:=uW y F (b:=w);(try simp at O);(try simp [go_sem] at G);replace bX:=ql G;clear G F y
  try simp at A D
  have U1:=aA A
  have U2:=aA D
  obtain ⟨ya,yc,rfl,_⟩:=aD.seg A
  obtain ⟨yb,yd,rfl,_⟩:=aG.seg D
  clear A D
  simp only [aF]
  have Z:hp E u=hp w u:=K.block u M
  have a5:u<E.heap.size:=by omega
  have ql:u≠E.heap.size:=by omega
  have dW:u≠E.heap.size+1:=by omega
  have a6:u<E.heap.size+1:=by omega
  rw [N]
  go_wp2_with fail;refine aK w zB fun y=>?_;refine (iE x a b _ e p q r s _ (aT H1 y) Z1.out (aT H2 y) Z2.out (aT H3 y) Z3.out (aT H4 y) Z4.out m1 m2 m3 m4).mono ?_;rintro _ w3 ⟨⟨v1,v2,v3,v4,rfl,H,I,z,J⟩,m⟩;have L:=bT y m;have R:=m.size;(try simp at R);have G:=And.intro (oZ m (b:=w+1+1)) <| And.intro (oZ m (b:=w+1)) <| oZ m (b:=w);(first|simp [go_sem,bX] at G|simp [go_sem] at G|skip);replace bX:=G;clear G m y
  try simp at H I z J
  have O1:=aA H
  have O2:=aA I
  have O3:=aA z
  have O4:=aA J
  obtain ⟨va,vc,rfl,_⟩:=aD.seg H
  obtain ⟨vb,vd,rfl,_⟩:=aG.seg I
  obtain ⟨vf,vg,rfl,_⟩:=cO.seg z
  obtain ⟨vh,vi,rfl,_⟩:=dV.seg J
  clear H I z J
  have z3:hp w3 u=hp w u:=L.block u M
  go_wp2
  have H:=O1.out
  have I:=O2.out
  have U:=O3.out
  have J:=O4.out
  refine bodyPost_ret (v:=.tuple #[.agg #[x.ch.cap,x.ch.sent,x.ch.got,x.ch.fin,.slice va x.ch.cells vc,.slice vb x.ch.words vd,.slice vf x.hands vg,.slice vh x.deals vi,.int .i64 (x.now)],.bool false]) (by simp [results,results135,go_sem, *]) rfl ⟨⟨_,_,_,_,rfl,aH (lo:=E+1+1) ?_ tO,aH (lo:=E+1+1) ?_ tO,aH (lo:=E+1+1) ?_ tO,aH (lo:=E+1+1) ?_ tO⟩,by exact zB⟩
  ·exact zO H H
  ·exact zO I I
  ·exact zO U U
  ·exact zO J J
theorem Gn (x:Wo) (who:Int) (S:St) (a b d e:Option Addr) (p q r s:Nat) (w:World) (h1:fA w w a x.ch.cells) (I:a=none→p=0) (m:fD w w b x.ch.words) (J:b=none→q=0) (u:pF w w d x.hands) (K:d=none→x.hands.length=0∧r=0) (y:pG w w e x.deals) (L:e=none→x.deals.length=0∧s=0) (E:x.ch.cells.length≤1099511627776) (F:x.ch.words.length≤1099511627776) (G:x.hands.length≤1099511627776) (H:x.deals.length≤1099511627776) (D:cK x who=true) (z:fZ x.ch (aL x who)=S) (A:S.2.2=false) :
  Calls prog 135 #[kZ x a b d e p q r s,.int .i64 who] w fun r w'=>fE w w' (stepW x who S).1 (.bool (stepW x who S).2) r:=(uL x who S a b d e p q r s w h1 I m J u K y L E F G H D z).1 A
theorem AX (x:Wo) (who:Int) (S:St) (a b d e:Option Addr) (p q r s:Nat) (w:World) (h1:fA w w a x.ch.cells) (J:a=none→p=0) (m:fD w w b x.ch.words) (K:b=none→q=0) (u:pF w w d x.hands) (L:d=none→x.hands.length=0∧r=0) (y:pG w w e x.deals) (M:e=none→x.deals.length=0∧s=0) (F:x.ch.cells.length≤1099511627776) (G:x.ch.words.length≤1099511627776) (H:x.hands.length≤1099511627776) (I:x.deals.length≤1099511627776) (E:cK x who=true) (z:fZ x.ch (aL x who)=S) (A:S.2.2=true) (D:(x.now == 20000)=true) :
  Calls prog 135 #[kZ x a b d e p q r s,.int .i64 who] w fun r w'=>fE w w' (stepW x who S).1 (.bool (stepW x who S).2) r:=(uL x who S a b d e p q r s w h1 J m K u L y M F G H I E z).2 A D
end
section
open Go.RowKit
attribute [local simp] aP
attribute [local go_sem ↓] aQ aY aZ gK aN
attribute [local go_sem] fF
attribute [local go_sem] sw nZ jL
theorem Gp (x:Wo) (who:Int) (S:St) (a b d e:Option Addr) (p q r s:Nat) (w:World) (h1:fA w w a x.ch.cells) (z1:a=none→p=0) (h2:fD w w b x.ch.words) (z2:b=none→q=0) (h3:pF w w d x.hands) (z3:d=none→x.hands.length=0∧r=0) (h4:pG w w e x.deals) (z4:e=none→x.deals.length=0∧s=0) (m1:x.ch.cells.length≤1099511627776) (m2:x.ch.words.length≤1099511627776) (m3:x.hands.length≤1099511627776) (m4:x.deals.length≤1099511627776) (ht:cK x who=true) (hS:fZ x.ch (aL x who)=S) (hc:S.2.2=true) (hn:(x.now == 20000)=false) (ab:0≤x.now∧x.now≤20000) (hx:(S.2.1.pos != 0)=true) :
  Calls prog 135 #[kZ x a b d e p q r s,.int .i64 who] w fun r w'=>fE w w' (stepW x who S).1 (.bool (stepW x who S).2) r:=by
 have H1:=aA h1
 have H2:=aA h2
 have H3:=aA h3
 have H4:=aA h4
 have Z1:=aA z1
 have Z2:=aA z2
 have Z3:=aA z3
 have Z4:=aA z4
 clear h1 h2 h3 h4 z1 z2 z3 z4
 obtain ⟨i,rfl⟩:∃ i:Nat,who=(i:Int):=⟨who.toNat,by simp [cK,eH,dA] at ht;omega⟩
 have hi:i<x.hands.length:=by simp [cK,eH,dA] at ht;omega
 obtain ⟨u,G,rfl,U,Y⟩:∃ b o,d=some ⟨b,o,none⟩∧b<w.heap.size∧Hid (∀ i j,i<x.hands.length→j<14→w.cell? ⟨b,o+i*14+j,none⟩=some (dY x.hands i j)):=by
  rcases H3.out with h0|h0
  ·omega
  ·exact h0
 have a6:∀ W:World,hp W u=hp w u→(jU (.pointer (some ⟨u,G+i*14,none⟩))).run prog W=.ok (.agg (aB (aL x i))) W:=fun W e=>jh _ fun j hj=>by rw [show (aB (aL x i)).getD j (.int .i64 0)=dY x.hands i j by simp [dY,aL],← Y.out i j hi hj];exact World.cell?_of_block e
 have a8:(0:Int)≤(i:Int):=by omega
 have a9:(i:Int)<(x.hands.length:Int):=by omega
 have e0:stepW x i S=({ gY x i S.2.1 with now:=x.now+1,ch:=S.1 },true):=by simp at hn hx;simp [stepW,hc,hn,hx]
 rw [e0]
 clear e0
 have T:=aA fun a b p q W=>om x.ch (aL x i) a b p q W
 rw [hS] at T
 clear hS
 have ac:u<w.heap.size+1:=by omega
 have ad:u<w.heap.size+1+1:=by omega
 have PD:u≠w.heap.size:=by omega
 have uV:u≠w.heap.size+1:=by omega
 go_enter func135,ntmps135
 go_wp2_with fail;refine aK w zB fun A=>?_;refine (T.out a b p q _ (aT H1 A) Z1.out (aT H2 A) Z2.out).mono ?_;rintro _ z ⟨⟨y1,y2,rfl,I,J,_,_⟩,L⟩;obtain ⟨O,V,M⟩:=uW A L (b:=w);(try simp at V);(try simp [go_sem] at M);replace bX:=ql M;clear M L A
 try simp at I J
 have U1:=aA I
 have U2:=aA J
 obtain ⟨ya,yc,rfl,_⟩:=aD.seg I
 obtain ⟨yb,yd,rfl,_⟩:=aG.seg J
 clear I J
 simp only [aF]
 have z2:hp z u=hp w u:=O.block u U
 have ae:u<z.heap.size:=by omega
 have ql:u≠z.heap.size:=by omega
 have dW:u≠z.heap.size+1:=by omega
 have af:u<z.heap.size+1:=by omega
 rw [hc]
 go_wp2_with fail;refine aK w zB fun A=>?_;refine aK z zB fun bk=>?_;refine (iE x a b _ e p q r s _ (aT H1 A) Z1.out (aT H2 A) Z2.out (aT H3 A) Z3.out (aT H4 A) Z4.out m1 m2 m3 m4).mono ?_;rintro _ N ⟨⟨v1,v2,v3,v4,rfl,D,E,H,F⟩,m⟩;have R:=bT A m;have X:=m.size;(try simp at X);have M:=And.intro (hQ m (b:=z+1)) <| And.intro (hQ m (b:=z)) <| And.intro (hQ m (b:=w+1+1)) <| And.intro (hQ m (b:=w+1)) <| hQ m (b:=w);(first|simp [go_sem,bX] at M|simp [go_sem] at M|skip);replace bX:=ll M;clear M;have K:=bT bk m;clear m A bk
 try simp at D E H F
 have O1:=aA D
 have O2:=aA E
 have O3:=aA H
 have O4:=aA F
 obtain ⟨va,vc,rfl,_⟩:=aD.seg D
 obtain ⟨vb,vd,rfl,_⟩:=aG.seg E
 obtain ⟨g,vg,rfl,aa,lg,Z,a0⟩:=cO.open1 H hi
 obtain ⟨vh,vi,rfl,_⟩:=dV.seg F
 clear D E H F
 have z3:hp N u=hp w u:=R.block u U
 have an:g≠w.heap.size:=by omega
 have ah:w.heap.size≠g:=by omega
 have ao:g≠w.heap.size+1:=by omega
 have ai:w.heap.size+1≠g:=by omega
 have ap:g≠w.heap.size+1+1:=by omega
 have aj:w.heap.size+1+1≠g:=by omega
 have aq:g≠z.heap.size:=by omega
 have ak:z.heap.size≠g:=by omega
 have ar:g≠z.heap.size+1:=by omega
 have al:z.heap.size+1≠g:=by omega
 have au:g≠N.heap.size:=by omega
 have am:N.heap.size≠g:=by omega
 have a1:w.heap.size<g:=by omega
 have a2:w.heap.size+1<g:=by omega
 have a3:w.heap.size+1+1<g:=by omega
 have a4:z.heap.size<g:=by omega
 have a5:z.heap.size+1<g:=by omega
 have ag:g<N.heap.size+1:=by omega
 have a7:∀ (W:World) (y:Ha),hp W g=hp N g→(pY (.pointer (some ⟨g,i*14,none⟩)) (.agg (aB y))).run prog W=.ok () (ig W g (i*14) y):=fun W y e=>qp y (fun j hj=>⟨_,(World.cell?_of_block (show W.heap[g]?=N.heap[g]? from e)).trans (Z j hj)⟩) (fun j=>(World.frozen?_of_block (show W.heap[g]?=N.heap[g]? from e)).trans (a0 j))
 go_wp2
 have D:=own_below U1.out K
 have E:=own_below U2.out K
 have G:=O3.out
 have F:=O4.out
 have p1:=aH (lo':=w) D tO
 have p2:=aH (lo':=w) E tO
 have p3:=aH (lo':=w) G tO
 have p4:=aH (lo':=w) F tO
 have e1:=gI (g:=g) (dD D G (by decide)) rfl
 have e2:=gI (g:=g) (dD E G (by decide)) rfl
 have e4:=gI (g:=g) (dD F G (by decide)) rfl
 refine bodyPost_ret (v:=.tuple #[.agg #[.int .i64 S.1.cap,.int .i64 S.1.sent,.int .i64 S.1.got,.int .i64 S.1.fin,.slice ya S.1.cells yc,.slice yb S.1.words yd,.slice (some ⟨g,0,none⟩) x.hands vg,.slice vh x.deals vi,.int .i64 (x.now+1)],.bool true]) (by simp [results,results135,go_sem, *]) rfl ⟨⟨_,_,_,_,rfl,?_,?_,?_,?_⟩,by (repeat (first|with_reducible assumption|with_reducible refine bA ?_|with_reducible refine bD ?_|((with_reducible refine bS ?_ ?_);rotate_left;(focus ((try simp);(try omega))))|((with_reducible refine BK ?_ ?_);rotate_left;(focus ((try simp);(try omega))))|((with_reducible refine LZ ?_ ?_ ?_);rotate_left;(focus ((try simp);(try omega)));(focus ((try simp);(try omega))))))⟩
 ·show aD _ _ _ S.1.cells
  (repeat (first|with_reducible exact p1|with_reducible refine World.ownsRow.alloc ?_ _|with_reducible refine World.ownsRow.drew ?_|with_reducible refine tQ ?_ e1|((with_reducible refine aI ?_ ?_ _);rotate_left;(focus (first|(refine own_ne D ?_;(try dsimp only);omega)|(refine dN D ?_;(try dsimp only);omega))))|((with_reducible refine dZ ?_ ?_);rotate_left;(focus (first|(refine own_ne D ?_;(try dsimp only);omega)|(refine dN D ?_;(try dsimp only);omega))))))
 ·show aG _ _ _ S.1.words
  (repeat (first|with_reducible exact p2|with_reducible refine World.ownsRow.alloc ?_ _|with_reducible refine World.ownsRow.drew ?_|with_reducible refine tQ ?_ e2|((with_reducible refine aI ?_ ?_ _);rotate_left;(focus (first|(refine own_ne E ?_;(try dsimp only);omega)|(refine dN E ?_;(try dsimp only);omega))))|((with_reducible refine dZ ?_ ?_);rotate_left;(focus (first|(refine own_ne E ?_;(try dsimp only);omega)|(refine dN E ?_;(try dsimp only);omega))))))
 ·show cO _ _ _ (x.hands.set i _)
  (repeat (first|with_reducible exact p3|with_reducible refine World.ownsRow.alloc ?_ _|with_reducible refine World.ownsRow.drew ?_|with_reducible refine cO.set ?_ hi _|((with_reducible refine aI ?_ ?_ _);rotate_left;(focus (first|(refine own_ne G ?_;(try dsimp only);omega)|(refine dN G ?_;(try dsimp only);omega))))|((with_reducible refine dZ ?_ ?_);rotate_left;(focus (first|(refine own_ne G ?_;(try dsimp only);omega)|(refine dN G ?_;(try dsimp only);omega))))))
 ·show dV _ _ _ x.deals
  (repeat (first|with_reducible exact p4|with_reducible refine World.ownsRow.alloc ?_ _|with_reducible refine World.ownsRow.drew ?_|with_reducible refine tQ ?_ e4|((with_reducible refine aI ?_ ?_ _);rotate_left;(focus (first|(refine own_ne F ?_;(try dsimp only);omega)|(refine dN F ?_;(try dsimp only);omega))))|((with_reducible refine dZ ?_ ?_);rotate_left;(focus (first|(refine own_ne F ?_;(try dsimp only);omega)|(refine dN F ?_;(try dsimp only);omega))))))
end
section
open Go.RowKit
attribute [local simp] aP
attribute [local go_sem ↓] aQ aY aZ gK aN
attribute [local go_sem] fF
theorem qQ (x:Wo) (i:Nat) (N:i<x.hands.length) (a b d e:Option Addr) (p q r s:Nat) (w:World) (h1:fA w w a x.ch.cells) (R:a=none→p=0) (K:fD w w b x.ch.words) (U:b=none→q=0) (L:pF w w d x.hands) (M:pG w w e x.deals) (m1:x.ch.cells.length≤1099511627776) (m3:x.hands.length≤1099511627776) (m4:x.deals.length≤1099511627776) :
  Calls prog 75 #[kZ x a b d e p q r s,.int .i64 i] w fun r' w'=>r'=.returned (.bool (pz x i))∧Below w w w':=by
 have V:=aA h1
 have X:=aA K
 have Y:=aA L
 have H4:=aA M
 have Z:=aA R
 have Z2:=aA U
 clear h1 K L M R U
 obtain ⟨m,E,rfl,A,D⟩:∃ b o,d=some ⟨b,o,none⟩∧b<w.heap.size∧Hid (∀ i j,i<x.hands.length→j<14→w.cell? ⟨b,o+i*14+j,none⟩=some (dY x.hands i j)):=by
  rcases Y.out with J|J
  ·omega
  ·exact J
 have a0:∀ W:World,hp W m=hp w m→(jU (.pointer (some ⟨m,E+i*14,none⟩))).run prog W=.ok (.agg (aB (aL x i))) W:=fun W e=>jh _ fun j hj=>by rw [show (aB (aL x i)).getD j (.int .i64 0)=dY x.hands i j by simp [dY,aL],← D.out i j N hj];exact World.cell?_of_block e
 have a1:(0:Int)≤(i:Int):=by omega
 have a2:(i:Int)<(x.hands.length:Int):=by omega
 have T:=aA fun a b p q W F G H I=>FK (fZ x.ch (aL x i)) x.ch (aL x i) a b p q W F G H I (fun a b p q W F G H I=>om x.ch (aL x i) a b p q W F G H I)
 have a4:m<w.heap.size+1:=by omega
 have PD:m≠w.heap.size:=by omega
 have c0:w.cell? ⟨m,E+i*14,none⟩=some (.int .i64 (aL x i).pos):=(D.out i 0 N tO).trans (by simp [dY,aL,aB,Array.getD])
 unfold pz
 by_cases u:(aL x (i:Int)).pos=23
 ·rw [u] at c0
  go_enter func75,ntmps75
  go_wp2_with fail
  go_region_held3 (fun w'=>w'.cell? ⟨w,0,none⟩=some (.int .i64 x.ch.cap)∧w'.cell? ⟨w,1,none⟩=some (.int .i64 x.ch.sent)∧w'.cell? ⟨w,2,none⟩=some (.int .i64 x.ch.got)∧w'.cell? ⟨w,3,none⟩=some (.int .i64 x.ch.fin)∧w'.cell? ⟨w,4,none⟩=some (.slice a x.ch.cells p)∧w'.cell? ⟨w,5,none⟩=some (.slice b x.ch.words q)∧w'.cell? ⟨w,6,none⟩=some (.slice (some ⟨m,E,none⟩) x.hands r)∧hp w' m=hp w m∧w'.cell? ⟨m,E+i*14,none⟩=some (.int .i64 23))
   (first|(simp [*,go_sem]))
   (first|(go_at_call 126;refine (T.out a b p q _ ((V.out.below zB).more tS) Z.out ((X.out.below zB).more tS) Z2.out).mono ?_;rintro _ O ⟨rfl,z⟩;have y:Below w w O:=bT zB z;have xb:=fun o=>z.cell (p:=⟨w,o,none⟩) (by simp);(simp [go_sem] at xb);have zb:hp O m=hp w m:=y.block m A;have cb:=y.cell (p:=⟨m,E+i*14,none⟩) A;rw [c0] at cb))
  all_goals go_wp2
  all_goals exact bodyPost_ret (v:=.bool (gL (fZ x.ch (aL x i)))) (by simp [results,results75,go_sem]) rfl ⟨by simp [u],y⟩
 ·have a3:((aL x (i:Int)).pos == 23)=false:=by simpa using u
  go_enter func75,ntmps75
  go_wp2_with fail
  go_region
  go_wp2
  go_ret
  exact ⟨by simp [u],by exact zB⟩
end
end Go.Proofs.YtffhjmepfojhnaaGreat
