/-
  Steps of growing of the reference model, on hands and channels that are kept whole; lists lie in memory and hold at most 2 ^ 40 elements.
-/
import Derived.Test.YtffhjmepfojhnaaGreatS18
import Derived.Test.YtffhjmepfojhnaaGreatS20
import Derived.Test.YtffhjmepfojhnaaGreatS21
import Derived.Test.YtffhjmepfojhnaaGreatS01
import Derived.Test.YtffhjmepfojhnaaGreatS03
import Derived.Test.YtffhjmepfojhnaaGreatS04
set_option maxRecDepth 100000
set_option maxHeartbeats 4000000
set_option linter.unusedSimpArgs false
set_option linter.unusedVariables false
namespace Go.Proofs.YtffhjmepfojhnaaGreat
open _root_.Go.Proofs.Tryz
section
open Go.RowKit
attribute [local simp] aP
attribute [local go_sem ↓] aQ bF aY bY aZ bZ aX bB aN aU
theorem Mt (c:Ch) (h:Ha) (a b:Option Addr) (p q:Nat) (w:World) (h1:fA w w a c.cells) (O:fD w w b c.words) (V:bJ c h 16 22 2=false) :
  Calls prog 191 #[.agg (aF c (.slice a c.cells p) (.slice b c.words q)),.agg (aB h)] w fun r w'=>dE w w' (bP c h) r:=by
 have e:bP c h=nothing:=by simp [bP,V]
 rw [e]
 have X:=aA h1
 have Y:=aA O
 have T:=aA fun W=>iX W w (.slice none 0 0) (.slice none 0 0)
 generalize nothing=x at *
 clear h1 O e
 have N:∀ j,(Value.slice none 0 0).ownBlock=some j→w.heap.size+1+1+1+1≤j:=fun j hj=>by cases hj
 have Z:=N
 go_enter func191,ntmps191
 go_wp2_with fail;refine aK w zB fun z=>?_;refine (dS c h 16 22 2 a b p q _ (aT X z) (aT Y z)).mono ?_;rintro _ w1 ⟨rfl,m⟩;obtain ⟨R,G,y⟩:=fH z m (b:=w);(try simp at G);(try simp [go_sem] at y);replace M:=dW y;clear y m z
 rw [V]
 go_wp2_with fail;refine aK w zB fun z=>?_;refine (T.out _).mono ?_;rintro _ w2 ⟨⟨y1,y2,rfl,E,F,I,J⟩,u⟩;obtain ⟨U,H,y⟩:=fH z u (b:=w);(try simp at H);(first|simp [go_sem,M] at y|simp [go_sem] at y|skip);replace M:=dW y;clear y u z
 obtain ⟨⟨A,D⟩,K,L⟩:=mW (w:=w) (w+1+1+1+1) I J N Z;obtain ⟨ya,yp,rfl,_⟩:=E.seg;obtain ⟨yb,yq,rfl,_⟩:=F.seg
 go_wp2
 refine rE results191 rfl (aO x.1 (.slice ya x.1.cells yp) (.slice yb x.1.words yq) tY) rfl (aJ x.2.1 tY) ⟨⟨_,_,rfl,?_,?_,K,L⟩,by exact zB⟩
 ·exact zP E E A
 ·exact zP F F D
theorem J6 (c:Ch) (h:Ha) (a b:Option Addr) (p q:Nat) (w:World) (h1:fA w w a c.cells) (z1:a=none→p=0) (h2:fD w w b c.words) (z2:b=none→q=0) (Z:bJ c h 16 22 2=true) (a0:h.pos=17) (hs:c.sent≤h.grow) :
  Calls prog 191 #[.agg (aF c (.slice a c.cells p) (.slice b c.words q)),.agg (aB h)] w fun r w'=>dE w w' (bP c h) r:=by
 obtain ⟨k1,k2,_,_⟩:=dC Z
 obtain ⟨n1,n2⟩:=eU k1
 have m1:c.cells.length≤1099511627776:=by omega
 have m2:c.words.length≤1099511627776:=by omega
 have H1:=aA h1
 have H2:=aA h2
 have Z1:=aA z1
 have Z2:=aA z2
 have e:bP c h=done c (dP h):=by simp [bP,Z,a0,hs]
 rw [e]
 have D:=aA fun v1 v2 W=>bU (c) (dP h) v1 v2 w W
 generalize done c (dP h)=x at *
 clear h1 h2 z1 z2 e k1 k2 n1 n2
 go_enter func191,ntmps191
 go_wp2_with fail;refine aK w zB fun y=>?_;refine (dS c h 16 22 2 a b p q _ (aT H1 y) (aT H2 y)).mono ?_;rintro _ w1 ⟨rfl,A⟩;obtain ⟨a3,L,u⟩:=fH y A (b:=w);(try simp at L);(try simp [go_sem] at u);replace K:=dW u;clear u A y
 rw [Z]
 go_wp2_with fail;refine aK w zB fun y=>?_;refine (dU c a b p q _ (aT H1 y) Z1.out (aT H2 y) Z2.out m1 m2).mono ?_;rintro _ w2 ⟨⟨v1,v2,rfl,R,T⟩,E⟩;obtain ⟨a4,M,u⟩:=fH y E (b:=w);(try simp at M);(first|simp [go_sem,K] at u|simp [go_sem] at u|skip);replace K:=dW u;clear u E y
 have d1:=kG R (w+1+1+1+1)
 have d2:=kG T (w+1+1+1+1)
 have p1:=aH (lo':=w) R tO
 have p2:=aH (lo':=w) T tO
 obtain ⟨a1,q1,rfl,_⟩:=R.seg
 obtain ⟨a2,q2,rfl,_⟩:=T.seg
 go_wp2_with fail
 go_region_with (first|((go_at_call 209;refine aK w zB fun y=>?_;refine aK w2 zB fun bk=>?_;refine (jW _ _).mono ?_;rintro _ w5 ⟨rfl,m⟩;have a6:=bT y m;have O:=m.size;(try simp at O);have u:=And.intro (hQ m (b:=w2)) <| And.intro (hQ m (b:=w+1+1+1)) <| And.intro (hQ m (b:=w+1+1)) <| And.intro (hQ m (b:=w+1)) <| hQ m (b:=w);(first|simp [go_sem,K] at u|simp [go_sem] at u|skip);replace K:=ll u;clear u;have z:=bT bk m;clear m y bk);have r1:=own_below p1 z;have r2:=own_below p2 z)|((go_at_call 198;refine aK w zB fun y=>?_;refine (D.out _ _ _ (zO r1 R) (zO r2 T)).mono ?_;rintro _ w3 ⟨⟨y1,y2,rfl,I,J,U,V⟩,F⟩;obtain ⟨a5,N,u⟩:=fH y F (b:=w);(try simp at N);(first|simp [go_sem,K] at u|simp [go_sem] at u|skip);replace K:=dW u;clear u F y);obtain ⟨⟨G,H⟩,X,Y⟩:=mW (w:=w) (w+1+1+1+1) U V d1 d2;obtain ⟨ya,yp,rfl,_⟩:=I.seg;obtain ⟨yb,yq,rfl,_⟩:=J.seg))
 all_goals go_wp2
 all_goals (refine rE results191 rfl (aO x.1 (.slice ya x.1.cells yp) (.slice yb x.1.words yq) tY) rfl (aJ x.2.1 tY) ⟨⟨_,_,rfl,?_,?_,X,Y⟩,by exact zB⟩)
 all_goals (first|exact zP I I G|skip)
 all_goals (first|exact zP J J H|skip)
theorem J7 (c:Ch) (h:Ha) (a b:Option Addr) (p q:Nat) (w:World) (h1:fA w w a c.cells) (z1:a=none→p=0) (h2:fD w w b c.words) (z2:b=none→q=0) (V:bJ c h 16 22 2=true) (X:h.pos=17) (hs:¬ c.sent≤h.grow) :
  Calls prog 191 #[.agg (aF c (.slice a c.cells p) (.slice b c.words q)),.agg (aB h)] w fun r w'=>dE w w' (bP c h) r:=by
 obtain ⟨k1,k2,_,_⟩:=dC V
 obtain ⟨n1,n2⟩:=eU k1
 have m1:c.cells.length≤1099511627776:=by omega
 have m2:c.words.length≤1099511627776:=by omega
 have Y:=aA h1
 have Z:=aA h2
 have Z1:=aA z1
 have Z2:=aA z2
 have e:bP c h=done (c) ({ h with pos:=18 }):=by simp [bP,V,X,hs]
 rw [e]
 have D:=aA fun v1 v2 W=>bU (c) ({ h with pos:=18 }) v1 v2 w W
 generalize done (c) ({ h with pos:=18 })=x at *
 clear h1 h2 z1 z2 e k1 k2 n1 n2
 go_enter func191,ntmps191
 go_wp2_with fail;refine aK w zB fun u=>?_;refine (dS c h 16 22 2 a b p q _ (aT Y u) (aT Z u)).mono ?_;rintro _ w1 ⟨rfl,y⟩;obtain ⟨a0,I,m⟩:=fH u y (b:=w);(try simp at I);(try simp [go_sem] at m);replace L:=dW m;clear m y u
 rw [V]
 go_wp2_with fail;refine aK w zB fun u=>?_;refine (dU c a b p q _ (aT Y u) Z1.out (aT Z u) Z2.out m1 m2).mono ?_;rintro _ w2 ⟨⟨v1,v2,rfl,M,N⟩,z⟩;obtain ⟨a3,J,m⟩:=fH u z (b:=w);(try simp at J);(first|simp [go_sem,L] at m|simp [go_sem] at m|skip);replace L:=dW m;clear m z u
 have d1:=kG M (w+1+1+1+1)
 have d2:=kG N (w+1+1+1+1)
 have p1:=aH (lo':=w) M tO
 have p2:=aH (lo':=w) N tO
 obtain ⟨a1,q1,rfl,_⟩:=M.seg
 obtain ⟨a2,q2,rfl,_⟩:=N.seg
 go_wp2_with fail;refine aK w zB fun u=>?_;refine (D.out _ _ _ (zO p1 M) (zO p2 N)).mono ?_;rintro _ w3 ⟨⟨y1,y2,rfl,G,H,O,R⟩,A⟩;obtain ⟨a4,K,m⟩:=fH u A (b:=w);(try simp at K);(first|simp [go_sem,L] at m|simp [go_sem] at m|skip);replace L:=dW m;clear m A u
 obtain ⟨⟨E,F⟩,T,U⟩:=mW (w:=w) (w+1+1+1+1) O R d1 d2;obtain ⟨ya,yp,rfl,_⟩:=G.seg;obtain ⟨yb,yq,rfl,_⟩:=H.seg
 go_wp2
 refine rE results191 rfl (aO x.1 (.slice ya x.1.cells yp) (.slice yb x.1.words yq) tY) rfl (aJ x.2.1 tY) ⟨⟨_,_,rfl,?_,?_,T,U⟩,by exact zB⟩
 ·exact zP G G E
 ·exact zP H H F
theorem wH (c:Ch) (h:Ha) (a b:Option Addr) (p q:Nat) (w:World) (h1:fA w w a c.cells) (z1:a=none→p=0) (h2:fD w w b c.words) (z2:b=none→q=0) (hk:bJ c h 16 22 2=true) (T:h.pos=20) :
  (∀ (H:eY c h.wait 1=true),Calls prog 191 #[.agg (aF c (.slice a c.cells p) (.slice b c.words q)),.agg (aB h)] w fun r w'=>dE w w' (bP c h) r) ∧
  (∀ (H:eY c h.wait 1=false),Calls prog 191 #[.agg (aF c (.slice a c.cells p) (.slice b c.words q)),.agg (aB h)] w fun r w'=>dE w w' (bP c h) r):=by
 constructor
 case' left =>
  intro H
  have O:Hid (0=0):=rfl
 case' right =>
  intro H
  have R:Hid (0=0):=rfl
 all_goals
  obtain ⟨Z,k2,_,_⟩:=dC hk
  obtain ⟨n1,n2⟩:=eU Z
  have m1:c.cells.length≤1099511627776:=by omega
  have m2:c.words.length≤1099511627776:=by omega
  have H1:=aA h1
  have H2:=aA h2
  have Z1:=aA z1
  have Z2:=aA z2
  first
  | (replace O:=O;have e:bP c h=done (dM c h.wait 1) ({ h with pos:=21 }):=by simp [bP,hk,T,ru,H])
  | (replace R:=R;have e:bP c h=done (dM c h.wait 1) ({ h with pos:=22 }):=by simp [bP,hk,T,ru,H])
  rw [e]
  have K:=fun a b p q W x1 x2 x3 x4=>qm c h.wait 1 a b p q W x1 x2 x3 x4 m1 m2
  first
  | (replace O:=O;have D:=fun v1 v2 W=>bU (dM c h.wait 1) ({ h with pos:=21 }) v1 v2 w W)
  | (replace R:=R;have D:=fun v1 v2 W=>bU (dM c h.wait 1) ({ h with pos:=22 }) v1 v2 w W)
  simp only [tN,rH] at D
  rw [H] at K
  first
  | (replace O:=O;generalize done (dM c h.wait 1) ({ h with pos:=21 })=x at *)
  | (replace R:=R;generalize done (dM c h.wait 1) ({ h with pos:=22 })=x at *)
  generalize (dM c h.wait 1).words=tw at *
  replace K:=aA K
  replace D:=aA D
  clear H
  clear h1 h2 z1 z2 e Z k2 n1 n2
  go_enter func191,ntmps191
  go_wp2_with fail;refine aK w zB fun y=>?_;refine (dS c h 16 22 2 a b p q _ (aT H1 y) (aT H2 y)).mono ?_;rintro _ w1 ⟨rfl,z⟩;obtain ⟨a6,U,u⟩:=fH y z (b:=w);(try simp at U);(try simp [go_sem] at u);replace N:=dW u;clear u z y
  rw [hk]
  go_wp2_with fail;refine aK w zB fun y=>?_;refine (dU c a b p q _ (aT H1 y) Z1.out (aT H2 y) Z2.out m1 m2).mono ?_;rintro _ w2 ⟨⟨v1,v2,rfl,o1,o2⟩,A⟩;obtain ⟨a7,V,u⟩:=fH y A (b:=w);(try simp at V);(first|simp [go_sem,N] at u|simp [go_sem] at u|skip);replace N:=dW u;clear u A y
  have d1:=kG o1 (w+1+1+1+1)
  have d2:=kG o2 (w+1+1+1+1)
  have p1:=aH (lo':=w) o1 tO
  have p2:=aH (lo':=w) o2 tO
  obtain ⟨a1,q1,rfl,_⟩:=o1.seg
  obtain ⟨a2,q2,rfl,_⟩:=o2.seg
  obtain ⟨k0,Z,k2,k3⟩:=mF (a:=w) (b:=w2)
  go_wp2_with fail;refine aK w zB fun y=>?_;refine aK w2 zB fun bk=>?_;refine (K.out _ _ _ _ _ (aT H1 y) Z1.out (aT H2 y) Z2.out).mono ?_;rintro _ w4 ⟨⟨u1,u2,rfl,L,M⟩,m⟩;have a9:=bT y m;have Y:=m.size;(try simp at Y);have u:=And.intro (hQ m (b:=w2)) <| And.intro (hQ m (b:=w+1+1+1)) <| And.intro (hQ m (b:=w+1+1)) <| And.intro (hQ m (b:=w+1)) <| hQ m (b:=w);(first|simp [go_sem,N,k0,Z,k2,k3] at u|simp [go_sem] at u|skip);replace N:=ll u;clear u;have aa:=bT bk m;clear m y bk
  try simp at L M
  have d3:=kG L (w+1+1+1+1)
  have d4:=kG M (w+1+1+1+1)
  clear d1 d2
  have d1:=d3
  have d2:=d4
  clear d3 d4
  have s1:=aH (lo':=w) L tO
  have s2:=aH (lo':=w) M tO
  have b3:=fun j (hj:u1.ownBlock=some j)=>(L.lt j hj).1
  have b4:=fun j (hj:u2.ownBlock=some j)=>(M.lt j hj).1
  have g3:u1.ownBlock≠some w2.heap.size:=fun e=>by have:=b3 _ e;omega
  have g4:u2.ownBlock≠some w2.heap.size:=fun e=>by have:=b4 _ e;omega
  obtain ⟨ua,up,rfl,_⟩:=L.seg
  obtain ⟨ub,uq,rfl,_⟩:=M.seg
  go_wp2_with fail;refine aK w zB fun y=>?_;refine (D.out _ _ _ (by (repeat first|with_reducible exact s1|with_reducible refine rQ ?_ _|with_reducible refine qh ?_|((with_reducible first|refine aI ?_ ?_ _|refine dZ ?_ ?_);rotate_left;focus first|(refine own_ne L ?_;(try dsimp only);omega)|(refine dN L ?_;(try dsimp only);omega)|exact g3))) (by (repeat first|with_reducible exact s2|with_reducible refine rQ ?_ _|with_reducible refine qh ?_|((with_reducible first|refine aI ?_ ?_ _|refine dZ ?_ ?_);rotate_left;focus first|(refine own_ne M ?_;(try dsimp only);omega)|(refine dN M ?_;(try dsimp only);omega)|exact g4)))).mono ?_;rintro _ w3 ⟨⟨y1,y2,rfl,I,J,a0,a3⟩,E⟩;obtain ⟨a8,X,u⟩:=fH y E (b:=w);(try simp at X);(first|simp [go_sem,N,k0,Z,k2,k3] at u|simp [go_sem] at u|skip);replace N:=dW u;clear u E y
  obtain ⟨⟨F,G⟩,a4,a5⟩:=mW (w:=w) (w+1+1+1+1) a0 a3 d1 d2;obtain ⟨ya,yp,rfl,_⟩:=I.seg;obtain ⟨yb,yq,rfl,_⟩:=J.seg
  go_wp2
  refine rE results191 rfl (aO x.1 (.slice ya x.1.cells yp) (.slice yb x.1.words yq) tY) rfl (aJ x.2.1 tY) ⟨⟨_,_,rfl,?_,?_,a4,a5⟩,by exact zB⟩
  ·exact zP I I F
  ·exact zP J J G
theorem J8 (c:Ch) (h:Ha) (a b:Option Addr) (p q:Nat) (w:World) (h1:fA w w a c.cells) (A:a=none→p=0) (u:fD w w b c.words) (D:b=none→q=0) (y:bJ c h 16 22 2=true) (m:h.pos=20) (z:eY c h.wait 1=true) :
  Calls prog 191 #[.agg (aF c (.slice a c.cells p) (.slice b c.words q)),.agg (aB h)] w fun r w'=>dE w w' (bP c h) r:=(wH c h a b p q w h1 A u D y m).1 z
theorem J9 (c:Ch) (h:Ha) (a b:Option Addr) (p q:Nat) (w:World) (h1:fA w w a c.cells) (A:a=none→p=0) (u:fD w w b c.words) (D:b=none→q=0) (y:bJ c h 16 22 2=true) (m:h.pos=20) (z:eY c h.wait 1=false) :
  Calls prog 191 #[.agg (aF c (.slice a c.cells p) (.slice b c.words q)),.agg (aB h)] w fun r w'=>dE w w' (bP c h) r:=(wH c h a b p q w h1 A u D y m).2 z
end
section
open Go.RowKit
attribute [local simp] aP
attribute [local go_sem ↓] aQ bF aY bY aZ bZ aX bB aN aU
theorem OV (c:Ch) (h:Ha) (a b:Option Addr) (p q:Nat) (w:World) (h1:fA w w a c.cells) (z1:a=none→p=0) (h2:fD w w b c.words) (z2:b=none→q=0) (hk:bJ c h 1 8 1=true) (a3:h.pos=6) :
  Calls prog 189 #[.agg (aF c (.slice a c.cells p) (.slice b c.words q)),.agg (aB h)] w fun r w'=>dE w w' (bI c h) r:=by
 have e:bI c h=jQ c h:=by simp [bI,hk,a3]
 rw [e]
 obtain ⟨k1,k2,_,_⟩:=dC hk
 obtain ⟨n1,n2⟩:=eU k1
 have H:c.cells.length≤1099511627776:=by omega
 have I:c.words.length≤1099511627776:=by omega
 have H1:=aA h1
 have H2:=aA h2
 have Z1:=aA z1
 have Z2:=aA z2
 obtain ⟨c1,c2⟩:=il k2
 have D:=aA fun v1 v2 W x1 x2 x3=>Jr c h v1 v2 w W x1 x2 x3 c1 tO
 generalize jQ c h=x at *
 clear h1 h2 z1 z2 e k1 k2 n1 n2
 go_enter func189,ntmps189
 go_wp2_with fail;refine aK w zB fun u=>?_;refine (dS c h 1 8 1 a b p q _ (aT H1 u) (aT H2 u)).mono ?_;rintro _ w1 ⟨rfl,y⟩;obtain ⟨a4,K,m⟩:=fH u y (b:=w);(try simp at K);(try simp [go_sem] at m);replace N:=dW m;clear m y u
 rw [hk]
 go_wp2_with fail;refine aK w zB fun u=>?_;refine (dU c a b p q _ (aT H1 u) Z1.out (aT H2 u) Z2.out H I).mono ?_;rintro _ w2 ⟨⟨v1,v2,rfl,R,T⟩,z⟩;obtain ⟨a5,L,m⟩:=fH u z (b:=w);(try simp at L);(first|simp [go_sem,N] at m|simp [go_sem] at m|skip);replace N:=dW m;clear m z u
 have U:=kG R (w+1+1+1+1)
 have V:=kG T (w+1+1+1+1)
 have p1:=aH (lo':=w) R tO
 have p2:=aH (lo':=w) T tO
 obtain ⟨a1,q1,rfl,_⟩:=R.seg
 obtain ⟨a2,q2,rfl,_⟩:=T.seg
 have H:∀ j,j<w.heap.size+1+1+1+1→some j≠(Value.slice a1 c.cells q1).ownBlock:=fun j J e=>by have:=U _ e.symm;omega
 have I:∀ j,j<w.heap.size+1+1+1+1→some j≠(Value.slice a2 c.words q2).ownBlock:=fun j J e=>by have:=V _ e.symm;omega
 have a7:=H w tO
 have a8:=H (w+1) tO
 have a9:=H (w+1+1) tO
 have aa:=H (w+1+1+1) tO
 have ab:=I w tO
 have ac:=I (w+1) tO
 have ad:=I (w+1+1) tO
 have ae:=I (w+1+1+1) tO
 go_wp2_with fail
 refine (D.out _ _ _ (zO p1 R) (zO p2 T) (by simp;omega)).mono ?_
 rintro _ w3 ⟨⟨y1,y2,rfl,F,G,X,Y⟩,O⟩
 have a6:Below w w w3:=I4 zB O (fun j J=>by have:=U j J;omega) (fun j J=>by have:=V j J;omega)
 have M:=O.2.2.2.1;(try (simp at M));have m:=xD O (b:=w);(first|simp [go_sem,N] at m|simp [go_sem] at m|skip);replace N:=dW m;clear m
 clear O
 obtain ⟨⟨A,E⟩,Z,a0⟩:=mW (w:=w) (w+1+1+1+1) X Y U V;obtain ⟨ya,yp,rfl,_⟩:=F.seg;obtain ⟨yb,yq,rfl,_⟩:=G.seg
 go_wp2
 refine rE results189 rfl (aO x.1 (.slice ya x.1.cells yp) (.slice yb x.1.words yq) tY) rfl (aJ x.2.1 tY) ⟨⟨_,_,rfl,?_,?_,Z,a0⟩,by exact zB⟩
 ·exact zP F F A
 ·exact zP G G E
end
section
open Go.RowKit
theorem tT {x:Wo} (h:bC x=true):0≤x.now∧x.now≤20000:=by
 simp [bC,ik,dA] at h
 omega
theorem sF (x:Wo) (who:Int) (a b d e:Option Addr) (p q r s:Nat) (w:World) (h1:fA w w a x.ch.cells) (G:a=none→p=0) (m:fD w w b x.ch.words) (H:b=none→q=0) (u:pF w w d x.hands) (I:d=none→x.hands.length=0∧r=0) (y:pG w w e x.deals) (J:e=none→x.deals.length=0∧s=0) (A:x.ch.cells.length≤1099511627776) (D:x.ch.words.length≤1099511627776) (E:x.hands.length≤1099511627776) (F:x.deals.length≤1099511627776) :
  Calls prog 22 #[kZ x a b d e p q r s,.int .i64 who] w fun r w'=>fE w w' (stopped x who).1 (.bool (stopped x who).2) r:=by
 cases z:bC x with
 | false=>exact Dl x who a b d e p q r s w h1 G m H u I y J A D E F z
 | true =>
  cases K:cK x who with
  | false=>exact Dm x who a b d e p q r s w h1 G m H u I y J A D E F z K
  | true =>
   cases hp:(aL x who).pos != 23 with
   | true=>exact Dn x who a b d e p q r s w h1 G m H u I y J A D E F z K hp
   | false=>exact Fy x who a b d e p q r s w h1 G m H u I y J A D E F z K hp
theorem FM (x:Wo) (who u m:Int) (a b d e:Option Addr) (p q r s:Nat) (w:World) (h1:fA w w a x.ch.cells) (I:a=none→p=0) (z:fD w w b x.ch.words) (J:b=none→q=0) (A:pF w w d x.hands) (K:d=none→x.hands.length=0∧r=0) (D:pG w w e x.deals) (L:e=none→x.deals.length=0∧s=0) (E:x.ch.cells.length≤1099511627776) (F:x.ch.words.length≤1099511627776) (G:x.hands.length≤1099511627776) (H:x.deals.length≤1099511627776) :
  Calls prog 132 #[kZ x a b d e p q r s,.int .i64 who,.agg #[.int .i64 u,.int .i64 m]] w fun r w'=>fE w w' (asked x who u m).1 (.int .i64 (asked x who u m).2) r:=by
 cases y:bC x with
 | false=>exact Jp x who u m a b d e p q r s w h1 I z J A K D L E F G H y
 | true =>
  cases M:cK x who with
  | false=>exact Jq x who u m a b d e p q r s w h1 I z J A K D L E F G H y M
  | true =>
   cases N:(called (aL x who) u m).2 != 0 with
   | true=>exact Fv x who u m a b d e p q r s w h1 I z J A K D L E F G H y M N
   | false =>
    cases O:x.now == 20000 with
    | true=>exact Fw x who u m a b d e p q r s w h1 I z J A K D L E F G H y M N O
    | false=>exact Ma x who u m a b d e p q r s w h1 I z J A K D L E F G H y M N O (tT y)
end
section
open Go.RowKit
section
variable {P:Program} {ops:Array Oper} {Q:Exit→Act→World→Prop}
theorem wI {id:Nat} {a:Act} {w:World} (T:List (List Nat)) (ds:List Nat) (Φ:(Nat→Bool)→(Nat→Value)→World→Prop) {F:(Nat→Value)→Act} (A:P.follows .mixedOrders=true) (y:ny T 0 ops.toList=true) (q:Nat.ble T.length ops.size=true)
  (u:∀ s,fill a ds s=F s) (r:Φ (fun _=>false) (fun k=>a.tmps.getD k undef) w.drew) (m:Steps P ops Q T F Φ 0 ops.toList)
  (fin:∀ (l:Nat→Bool) (s:Nat→Value) (w:World),(∀ i,Nat.blt i ops.size=true→l i=true)→Φ l s w→Q .normal (F s) w):(Code.region id ops true).wp P Q a w:=by
 refine wp_region_any A ?_
 have:=yT y q m fin ops.size (Array.replicate ops.size false) (fun _=>false) (fun k=>a.tmps.getD k undef) w.drew (by simp) (fun i z=>by simp [z]) (by
  generalize ops.size=n
  induction n with
  | zero=>simp [left]
  | succ n ih=>simp [left];exact ih) (fun i e o _ _ _ h=>by cases h) r
 rw [← u,yS] at this
 exact this
end
theorem OX (n:Nat) (h1:1≤n) (h6:n≤6) (w:World):Calls prog 97 #[.int .u64 1,.int .u64 n] w fun r w'=>r=.returned (.tuple #[.int .u64 0,.int .u64 n])∧w=w':=by
 have m:n=1∨n=2∨n=3∨n=4∨n=5∨n=6:=by omega
 rcases m with rfl|rfl|rfl|rfl|rfl|rfl
 all_goals
  go_enter func97,ntmps97
  go_wp2_with (go_at_call 147;go_enter func147,ntmps147)
  exact bodyPost_ret (by simp [results,results97,go_sem] <;> rfl) rfl ⟨rfl,rfl⟩
theorem cutFrom (k n g:Nat) (u:k<n) (W:World):(Instr.sliceAt 32 (.slice (some ⟨g,0,none⟩) n n) (some (.int .i64 k)) none none).run prog W=.ok (.slice (some ⟨g,k*14,none⟩) (n - k) (n - k)) W:=by
 have q:Tryz.prog.underlying 32=some (.slice (Tryz.prog.elem 32)):=by kernel_rfl
 have r:Tryz.prog.elem 32=49:=by kernel_rfl
 rw [run_sliceAt_slice _ _ _ _ _ _ q,run_slice_l _ _ _ _ _ q _ _ tO tO,r]
 have m:¬ n=k:=by omega
 simp [go_sem,sliced,m,Addr.add]
 exact fun e=>e.symm
theorem Qq (k n g:Nat) (r:k<n) (W:World):(Instr.sliceAt 32 (.slice (some ⟨g,0,none⟩) n n) none (some (.int .i64 k)) none).run prog W=.ok (.slice (some ⟨g,0,none⟩) k n) W:=by
 have m:Tryz.prog.underlying 32=some (.slice (Tryz.prog.elem 32)):=by kernel_rfl
 have q:Tryz.prog.elem 32=49:=by kernel_rfl
 rw [run_sliceAt_slice _ _ _ _ _ _ m,run_slice_h _ _ _ _ _ m _ _ tO tO,q]
 simp [go_sem,sliced]
theorem qK {P:Program} (w:World) (F J K elem:TypeId) (g o q u k:Nat) (a:Addr) (r y N:Nat) (z:Value) (t:TypeId) (m:Nat) (I:Nat.min r q=m)
  (M:P.underlying F=some (.slice elem)) (hs:(P.info? elem).map (·.size)=some k) (H:w.heap[g]?=some (.cells (Array.replicate N z) t (0,0))) (A:o+m*k≤N)
  (D:∀ j,j<m*k→w.cell? (a.add j)=some z) (h1:z.oneCell'=true) :
  (Builtin.copy_ #[F,J] K #[.slice (some ⟨g,o,none⟩) q u,.slice (some a) r y]).run P w=.ok (goInt m) w:=by
 have:=rW (P:=P) w F J K elem g o q u k a r y (Array.replicate N z) t (List.replicate (m*k) z) M hs H (by simp [I]) (fun j v E=>by
  rw [List.getElem?_replicate] at E
  split at E
  ·rename_i G
   rw [D j G];simpa using E
  ·cases E) (by simpa using A) (fun v O=>by rw [(List.mem_replicate.1 O).2];exact h1)
 rw [this,I]
 congr 1
 have e:((Array.replicate N z).toList.take o ++ List.replicate (m*k) z ++ (Array.replicate N z).toList.drop (o+(List.replicate (m*k) z).length)).toArray=Array.replicate N z:=by
  apply Array.ext_getElem?
  intro j
  have L:((Array.replicate N z).toList.take o ++ List.replicate (m*k) z ++ (Array.replicate N z).toList.drop (o+(List.replicate (m*k) z).length))=List.replicate N z:=by
   simp only [Array.toList_replicate,List.take_replicate,List.drop_replicate,List.length_replicate,List.replicate_append_replicate]
   congr 1
   omega
  rw [L]
  simp
 rw [e]
 exact setRow_self w g _ t (0,0) H
theorem JA {w:World} {g N M:Nat} {t:TypeId} {z:Value} (q:w.heap[g]?=some (.cells (Array.replicate N z) t (0,0))) (r:M≤N):∀ j,j<M→w.cell? ((⟨g,0,none⟩:Addr).add j)=some z:=by
 intro j u
 have e:(⟨g,0,none⟩:Addr).add j=⟨g,j,none⟩:=by
  simp [Addr.add];intro e;exact e.symm
 rw [e]
 have m:j<N:=by omega
 simp [World.cell?,q,m]
theorem JB (n:Nat):madeCells (aB Ha.zero) (n*14)=Array.replicate (n*14) (.int .i64 0):=by
 apply Array.ext_getElem?
 intro j
 by_cases m:j<n*14
 ·have h:j % 14=0∨j % 14=1∨j % 14=2∨j % 14=3∨j % 14=4∨j % 14=5∨j % 14=6∨j % 14=7∨j % 14=8∨j % 14=9∨j % 14=10∨j % 14=11∨j % 14=12∨j % 14=13:=by omega
  rw [Array.getElem?_replicate,if_pos m]
  have e:(madeCells (aB Ha.zero) (n*14))[j]?=some ((aB Ha.zero)[j % 14]!):=by simp [madeCells,m,aB]
  rw [e]
  rcases h with h|h|h|h|h|h|h|h|h|h|h|h|h|h <;> rw [h] <;> rfl
 ·rw [Array.getElem?_eq_none (by simp [madeCells];omega),Array.getElem?_eq_none (by simp;omega)]
theorem FN (n G:Nat) (h1:1≤n) (h6:n≤6) (w:World) (Z:∀ j,j<14→w.cell? ⟨G,j,none⟩=some (.int .i64 0)) (l0:G<w.heap.size) :
  Calls prog 47 #[.slice (some ⟨G,0,none⟩) 1 1,.int .i64 n] w fun r w'=>(∃ g,r=.returned (.slice (some ⟨g,0,none⟩) n n)∧w.heap.size≤g∧hp w' g=some (.cells (Array.replicate (n*14) (.int .i64 0)) 49))∧Below w w w':=by
 have N:=Ia n tO
 simp only [JB] at N
 have a6:decide ((n:Int)<0)=false:=by simp
 have a7:decide ((9223372036854775807:Int)<(n:Int))=false:=by simp;omega
 have M:=fun w=>OX n h1 h6 w
 have MM:=aA M
 clear M
 have H0:=aA Z
 clear Z
 go_enter func47,ntmps47
 go_wp2_with (go_at_call 97;refine (MM.out _).mono ?_;rintro _ _ ⟨rfl,rfl⟩)
 generalize I:World.alloc w _=J
 have A:hp J w=some (.cells (Array.replicate (n*14) (.int .i64 0)) 49):=by rw [← I];exact heap_alloc_new _ _
 have H:Below w w J:=by rw [← I];exact aS _ _
 have E:w<J.heap.size:=(bO A).2.2
 clear I N
 rw [qK (P:=prog) J 32 32 3 49 w 0 n n 14 ⟨G,0,none⟩ 1 1 (n*14) _ 49 1 (by simp [Nat.min_def];omega) underlying32 (by kernel_rfl) A tO (fun j hj=>by rw [show (⟨G,0,none⟩:Addr).add j=⟨G,j,none⟩ by simp [Addr.add];intro e;exact e.symm];exact (H.cell (p:=⟨G,j,none⟩) l0).trans (H0.out j tO)) rfl]
 go_wp2_with fail
 go_loopw [8] (fun v wr=>∃ k:Nat,1≤k∧k≤n∧v=.int .i64 k∧Below J J wr) (fun v _=>n - (intOf v).toNat)
 case atStart=>exact ⟨1,Nat.le_refl _,h1,rfl,Below.refl _ _⟩
 case round =>
  obtain ⟨k,a1,a2,rfl,u⟩:=hrel
  by_cases L:k<n
  ·have T:=(u.block w E).trans A
   have V:w<wr.heap.size:=by have:=u.size;omega
   have hF:=fun W=>cutFrom k n w L W
   have hT:=fun W=>Qq k n w L W
   obtain ⟨m,O⟩:∃ m,Nat.min k (n - k)=m:=⟨_,rfl⟩
   have a3:1≤m:=by have e:min k (n - k)=m:=O;omega
   have a4:m≤n - k:=by have e:min k (n - k)=m:=O;omega
   have a5:m≤k:=by have e:min k (n - k)=m:=O;omega
   go_wp2_with fail
   refine wI [[],[],[],[1,2],[],[],[4,5],[1,2,3,4,5,6],qB [],qB [8]] [38,39,40,41,42,43,44,45,46,8] (fun l s X=>(Below wr wr X)∧(l 9=false→s 8=.int .i64 k)∧(l 0=true→s 38=.int .i64 k)∧(l 1=true→s 39=.slice (some ⟨w,0,none⟩) n n)∧(l 2=true→s 40=.int .i64 k)∧(l 3=true→s 41=.slice (some ⟨w,k*14,none⟩) (n - k) (n - k))∧(l 4=true→s 42=.slice (some ⟨w,0,none⟩) n n)∧(l 5=true→s 43=.int .i64 k)∧(l 6=true→s 44=.slice (some ⟨w,0,none⟩) k n)∧(l 7=true→s 45=.int .i64 m)∧(l 8=true→s 46=.int .i64 ((k:Int)+m))∧(l 9=true→s 8=.int .i64 ((k:Int)+m))) (by kernel_rfl) (by kernel_rfl) (by kernel_rfl) (fun s=>by (simp only [fill,qG,List.setIfInBounds_toArray,List.set_cons_zero,List.set_cons_succ];rfl)) (⟨(Below.refl _ _).drew,fun _=>rfl,nB,nB,nB,nB,nB,nB,nB,nB,nB,nB⟩) ?_ ?_
   refine ⟨?_,?_,?_,?_,?_,?_,?_,?_,?_,?_,trivial⟩;iterate 10 (intro l s X hl z U q K y;rotate_left)
   ·intro l s w3 D q
    have R:=q.1
    have Y:=((jD q).2.2.2 (D 9 rfl))
    simp only [Y]
    clear Y q D
    go_wp2
    go_roundw
    case rel=>exact ⟨k+m,by omega,by omega,by (try simp) <;> rfl,u.trans (R.mono u.size)⟩
    case measure=>simp [intOf];omega
   ·have F:=q.out.2.1 (U 9 rfl)
    go_simp
    refine y.out (upd s 38 (.int .i64 k)) _ _ (by simp [aC,F] <;> rfl) (kB (kX (fun _=>rfl) id) q.out)
   ·go_simp
    refine y.out (upd s 39 (.slice (some ⟨w,0,none⟩) n n)) _ _ (by simp [aC] <;> rfl) (kB (kA (kX (fun _=>rfl) id)) q.out)
   ·have F:=q.out.2.1 (U 9 rfl)
    go_simp
    refine y.out (upd s 40 (.int .i64 k)) _ _ (by simp [aC,F] <;> rfl) (kC (kX (fun _=>rfl) id) q.out)
   ·have e1:=(q.out.2.2.2.1 (z 1 rfl))
    have e2:=(q.out.2.2.2.2.1 (z 2 rfl))
    go_simp
    refine y.out (upd s 41 (.slice (some ⟨w,k*14,none⟩) (n - k) (n - k))) _ _ (by simp [aC,e1,e2] <;> rfl) (kC (kA (kX (fun _=>rfl) id)) q.out)
   ·go_simp
    refine y.out (upd s 42 (.slice (some ⟨w,0,none⟩) n n)) _ _ (by simp [aC] <;> rfl) (kC (kB (kX (fun _=>rfl) id)) q.out)
   ·have F:=q.out.2.1 (U 9 rfl)
    go_simp
    refine y.out (upd s 43 (.int .i64 k)) _ _ (by simp [aC,F] <;> rfl) (kC (kB (kA (kX (fun _=>rfl) id))) q.out)
   ·have e4:=((jC q.out).2.2.1 (z 4 rfl))
    have e5:=((jC q.out).2.2.2.1 (z 5 rfl))
    go_simp
    refine y.out (upd s 44 (.slice (some ⟨w,0,none⟩) k n)) _ _ (by simp [aC,e4,e5] <;> rfl) (kD (kX (fun _=>rfl) id) q.out)
   ·have e3:=((jC q.out).2.1 (z 3 rfl))
    have e6:=((jD q.out).1 (z 6 rfl))
    have hg:=((q.out.1).block w V).trans T
    have a0:=qK (P:=prog) X 32 32 3 49 w (k*14) (n - k) (n - k) 14 ⟨w,0,none⟩ k n (n*14) _ 49 m O underlying32 (by kernel_rfl) hg tO (JA hg tO) rfl
    go_simp
    refine y.out (upd s 45 (.int .i64 m)) _ _ (by simp [aC,e3,e6] <;> rfl) (kD (kA (kX (fun _=>rfl) id)) q.out)
   ·have e0:=(q.out.2.2.1 (z 0 rfl))
    have e7:=((jD q.out).2.1 (z 7 rfl))
    have hW:IntKind.i64.wrap ((k:Int)+(m:Int))=(k:Int)+m:=IntWalk.i64_in _ tO
    go_simp
    refine y.out (upd s 46 (.int .i64 ((k:Int)+m))) _ _ (by simp [aC,e0,e7] <;> rfl) (kD (kB (kX (fun _=>rfl) id)) q.out)
   ·have F:=((jD q.out).2.2.1 (z 8 rfl))
    go_simp
    refine y.out (upd s 8 (.int .i64 ((k:Int)+m))) _ _ (by simp [aC,F] <;> rfl) (kA (kX (fun h9=>nU h9 (show upd l 9 true 9=true from rfl)) (kD (kA (fun _=>fun _=>rfl)))) q.out)
  ·have:k=n:=by omega
   subst this
   go_wp2
   go_ret
   exact ⟨⟨_,rfl,Nat.le_refl _,(u.block w E).trans A⟩,H.trans (u.mono H.size)⟩
end
end Go.Proofs.YtffhjmepfojhnaaGreat
