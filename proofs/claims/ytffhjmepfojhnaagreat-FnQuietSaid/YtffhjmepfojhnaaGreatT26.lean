/-
  Steps of sending and receiving of the reference model, all cases, on hands and channels that are kept whole; lists lie in memory and hold at most 2 ^ 40 elements.
-/
import Derived.Test.YtffhjmepfojhnaaGreatT23
import Derived.Test.YtffhjmepfojhnaaGreatT22
import Derived.Test.YtffhjmepfojhnaaGreatT24
import Derived.Test.YtffhjmepfojhnaaGreatT25
import Derived.Test.YtffhjmepfojhnaaGreatT18
import Derived.Test.YtffhjmepfojhnaaGreatT04
import Derived.Laws.EntriesVeiled
import Derived.BigRegion
import Derived.Test.YtffhjmepfojhnaaGreatT17
import Derived.Deep.DeepCutAuto
import Derived.Deep.RegionHeld3
set_option maxRecDepth 100000
set_option maxHeartbeats 8000000
set_option linter.unusedSimpArgs false
set_option linter.unusedVariables false
namespace Go.Proofs.YtffhjmepfojhnaaGreat
open _root_.Go.Proofs.Tryz
section
open Go.RowKit
attribute [local simp] dz
attribute [local go_sem ↓] dA fU dO gW dP gY dW fE bK eO
theorem Qq (c:Ch) (h:Ha) (a b:Option Addr) (p q:Nat) (w:World) (h1:gG w w a c.cells) (z1:a=none→p=0) (h2:gI w w b c.words) (z2:b=none→q=0) (X:bC c h 9 15 2=true) (Y:h.pos=12) :
  Calls prog 190 #[.agg (aH c (.slice a c.cells p) (.slice b c.words q)),.agg (aB h)] w fun r w'=>dU w w' (aO c h) r:=by
 obtain ⟨k1,k2,_,_⟩:=cO X;obtain ⟨n1,n2⟩:=fT k1;have m1:c.cells.length≤1099511627776:=tO;have m2:c.words.length≤1099511627776:=tO;have Z:=aA h1;have H2:=aA h2;have Z1:=aA z1;have Z2:=aA z2;obtain ⟨c1,c2⟩:=iW k2;have e:aO c h=fZ c h:=by simp [aO,X,Y]
 rw [e];have D:=aA fun v1 v2 W x1 x2 x3=>JJ c h v1 v2 w W x1 x2 x3 c1 tO
 generalize fZ c h=x at *;clear h1 h2 z1 z2 e k1 k2 n1 n2 c1 c2;go_enter func190,ntmps190;go_wp2_with fail;refine aK w zB fun G=>?_;refine (eQ c h 9 15 2 a b p q _ (aT Z G) (aT H2 G)).mono ?_;rintro _ w1 ⟨rfl,H⟩;obtain ⟨a0,K,F⟩:=gZ G H (b:=w);(try simp at K);(try simp [go_sem] at F);replace N:=fP F;clear F H G
 rw [X];go_wp2_with fail;refine aK w zB fun G=>?_;refine (eT c a b p q _ (aT Z G) Z1.out (aT H2 G) Z2.out m1 m2).mono ?_;rintro _ w2 ⟨⟨v1,v2,rfl,U,V⟩,I⟩;obtain ⟨a3,L,F⟩:=gZ G I (b:=w);(try simp at L);(first|simp [go_sem,N] at F|simp [go_sem] at F|skip);replace N:=fP F;clear F I G
 have d1:=mD U (w+1+1+1+1);have d2:=mD V (w+1+1+1+1);have p1:=aL (lo':=w) U tO;have p2:=aL (lo':=w) V tO;obtain ⟨a1,q1,rfl,_⟩:=U.seg;obtain ⟨a2,q2,rfl,_⟩:=V.seg;have R:∀ j,j<w.heap.size+1+1+1+1→some j≠(Value.slice a1 c.cells q1).ownBlock:=fun j J e=>by have:=d1 _ e.symm;omega
 have T:∀ j,j<w.heap.size+1+1+1+1→some j≠(Value.slice a2 c.words q2).ownBlock:=fun j J e=>by have:=d2 _ e.symm;omega
 have a5:=R (w.heap.size) tO;have a9:=T (w.heap.size) tO;have a6:=R (w+1) tO;have aa:=T (w+1) tO;have a7:=R (w+1+1) tO;have ab:=T (w+1+1) tO;have a8:=R (w+1+1+1) tO;have ac:=T (w+1+1+1) tO;go_wp2_with fail;refine (D.out _ _ _ (zO p1 U) (zO p2 V) dQ).mono ?_;rintro _ w3 ⟨⟨y1,y2,rfl,jF,jG,nQ,ny⟩,O⟩;have a4:Below w w w3:=Lt zB O (fun j J=>by have:=d1 j J;omega) (fun j J=>by have:=d2 j J;omega);have M:=O.2.2.2.1;(try (simp at M));have F:=QU O (b:=w);(first|simp [go_sem,N] at F|simp [go_sem] at F|skip);replace N:=fP F;clear F
 clear O;exact Oj
theorem GZ {c:Ch} (e:aN c=true):0≤c.got∧c.got≤40:=by
 simp [aN,fH,dV] at e;omega
theorem Nh {c:Ch} (e:aN c=true):0≤c.sent∧c.sent≤40:=by
 simp [aN,fH,dV] at e;omega
theorem Qr {c:Ch} (e:aN c=true):0≤c.fin∧c.fin≤40:=by
 simp [aN,fH,dV] at e;omega
theorem BQ (c:Ch) (h:Ha) (a b:Option Addr) (p q:Nat) (w:World) (h1:gG w w a c.cells) (z1:a=none→p=0) (h2:gI w w b c.words) (G:b=none→q=0) :
  Calls prog 190 #[.agg (aH c (.slice a c.cells p) (.slice b c.words q)),.agg (aB h)] w fun r w'=>dU w w' (aO c h) r:=by
 cases F:bC c h 9 15 2 with
 | false=>exact PQ c h a b p q w h1 h2 F
 | true =>
  obtain ⟨H,_,I,J⟩:=cO F;have hp:h.pos=9∨h.pos=10∨h.pos=11∨h.pos=12∨h.pos=13∨h.pos=14∨h.pos=15:=tO;rcases hp with hp|hp|hp|hp|hp|hp|hp
  ·by_cases hs:c.got=40
   ·exact PT c h a b p q w h1 z1 h2 G F hp hs
   ·exact PS c h a b p q w h1 z1 h2 G F hp hs (GZ H)
  ·by_cases hs:(cellAt c h.cell).s=6
   ·exact MO c h a b p q w h1 z1 h2 G F hp hs
   ·cases ht:(iV c h).2 with
    | true=>exact MP c h a b p q w h1 z1 h2 G F hp (by simpa using hs) ht
    | false=>exact MQ c h a b p q w h1 z1 h2 G F hp (by simpa using hs) ht
  ·exact PR c h a b p q w h1 z1 h2 G F hp
  ·exact Qq c h a b p q w h1 z1 h2 G F hp
  ·cases ht:eG c h.wait 1 with
   | true=>exact MM c h a b p q w h1 z1 h2 G F hp ht
   | false=>exact MN c h a b p q w h1 z1 h2 G F hp ht
  ·exact Qf c h a b p q w h1 z1 h2 G F hp
  ·exact Qg c h a b p q w h1 z1 h2 G F hp
theorem BR (c:Ch) (h:Ha) (a b:Option Addr) (p q:Nat) (w:World) (h1:gG w w a c.cells) (z1:a=none→p=0) (h2:gI w w b c.words) (G:b=none→q=0) :
  Calls prog 189 #[.agg (aH c (.slice a c.cells p) (.slice b c.words q)),.agg (aB h)] w fun r w'=>dU w w' (bE c h) r:=by
 cases F:bC c h 1 8 1 with
 | false=>exact PN c h a b p q w h1 h2 F
 | true =>
  obtain ⟨H,_,I,J⟩:=cO F;have hp:h.pos=1∨h.pos=2∨h.pos=3∨h.pos=4∨h.pos=5∨h.pos=6∨h.pos=7∨h.pos=8:=tO;rcases hp with hp|hp|hp|hp|hp|hp|hp|hp
  ·by_cases hs:c.sent=40
   ·exact Qi c h a b p q w h1 z1 h2 G F hp hs
   ·exact PO c h a b p q w h1 z1 h2 G F hp hs (Nh H)
  ·exact Tk c h a b p q w h1 z1 h2 G F hp
  ·cases ht:(kZ c h).2 with
   | true=>exact Qn c h a b p q w h1 z1 h2 G F hp ht
   | false=>exact Qo c h a b p q w h1 z1 h2 G F hp ht
  ·exact SA c h a b p q w h1 z1 h2 G F hp
  ·exact SB c h a b p q w h1 z1 h2 G F hp
  ·exact Tp c h a b p q w h1 z1 h2 G F hp
  ·exact SE c h a b p q w h1 z1 h2 G F hp
  ·exact SC c h a b p q w h1 z1 h2 G F hp
theorem Ni (c:Ch) (h:Ha) (a b:Option Addr) (p q:Nat) (w:World) (h1:gG w w a c.cells) (h2:gI w w b c.words) (O:bC c h 23 25 0=false) :
    Calls prog 192 #[.agg (aH c (.slice a c.cells p) (.slice b c.words q)),.agg (aB h)] w fun r w'=>dU w w' (bJ c h) r:=by
  have e:bJ c h=nothing:=by simp [bJ,O]
  rw [e];have R:=aA h1;have U:=aA h2;have T:=aA fun W=>jL W w (.slice none 0 0) (.slice none 0 0)
  generalize nothing=x at *;clear h1 h2 e;have d1:∀ j,(Value.slice none 0 0).ownBlock=some j→w.heap.size+1+1+1+1≤j:=fun j V=>by cases V
  have d2:=d1;go_enter func192,ntmps192;go_wp2_with fail;refine aK w zB fun I=>?_;refine (eQ c h 23 25 0 a b p q _ (aT R I) (aT U I)).mono ?_;rintro _ X ⟨rfl,F⟩;obtain ⟨M,J,H⟩:=gZ I F (b:=w);(try simp at J);(try simp [go_sem] at H);replace L:=fP H;clear H F I
  rw [O];go_wp2_with fail;refine aK w zB fun I=>?_;refine (T.out _).mono ?_;rintro _ Y ⟨⟨Z,y2,rfl,jF,jG,nQ,ny⟩,G⟩;obtain ⟨N,K,H⟩:=gZ I G (b:=w);(try simp at K);(first|simp [go_sem,L] at H|simp [go_sem] at H|skip);replace L:=fP H;clear H G I
  exact Oi
theorem Nj (c:Ch) (h:Ha) (a b:Option Addr) (p q:Nat) (w:World) (h1:gG w w a c.cells) (h2:gI w w b c.words) (hk:bC c h 23 25 0=true) (hh:jR c h.mine=false) :
    Calls prog 192 #[.agg (aH c (.slice a c.cells p) (.slice b c.words q)),.agg (aB h)] w fun r w'=>dU w w' (bJ c h) r:=by
  have e:bJ c h=nothing:=by simp [bJ,hk,hh]
  exact Uc
theorem Nk (c:Ch) (h:Ha) (a b:Option Addr) (p q:Nat) (w:World) (h1:gG w w a c.cells) (h2:gI w w b c.words) (hk:bC c h 23 25 0=true) (hh:jR c h.mine=true) (F:h.pos=24) (hc:(h.code == 1)=true) :
    Calls prog 192 #[.agg (aH c (.slice a c.cells p) (.slice b c.words q)),.agg (aB h)] w fun r w'=>dU w w' (bJ c h) r:=by
  have e:bJ c h=nothing:=by simp at hc;simp [bJ,hk,hh,F,hc]
  exact Uc
theorem Qs (c:Ch) (h:Ha) (a b:Option Addr) (p q:Nat) (w:World) (h1:gG w w a c.cells) (z1:a=none→p=0) (h2:gI w w b c.words) (z2:b=none→q=0) (hk:bC c h 23 25 0=true) (hh:jR c h.mine=true) (a0:h.pos=23) :
    Calls prog 192 #[.agg (aH c (.slice a c.cells p) (.slice b c.words q)),.agg (aB h)] w fun r w'=>dU w w' (bJ c h) r:=by
  obtain ⟨k1,k2,_,_⟩:=cO hk;obtain ⟨n1,n2⟩:=fT k1;have m1:c.cells.length≤1099511627776:=tO;have m2:c.words.length≤1099511627776:=tO;have H1:=aA h1;have H2:=aA h2;have Z1:=aA z1;have Z2:=aA z2;have K:=tT.1 hh;have e:bJ c h=j5 c h:=by simp [bJ,hk,hh,a0]
  rw [e];have D:=aA fun v1 v2 W x1 x2=>JM c h v1 v2 w W x1 x2 K.1 K.2 n2
  generalize j5 c h=x at *;clear h1 h2 z1 z2 e k1 k2 n1 n2 K;go_enter func192,ntmps192;go_wp2_with fail;refine aK w zB fun G=>?_;refine (eQ c h 23 25 0 a b p q _ (aT H1 G) (aT H2 G)).mono ?_;rintro _ w1 ⟨rfl,I⟩;obtain ⟨a4,O,F⟩:=gZ G I (b:=w);(try simp at O);(try simp [go_sem] at F);replace L:=fP F;clear F I G
  rw [hk];go_wp2_with fail;refine aK w zB fun G=>?_;refine (wU c h.mine _ _ _ _ _).mono ?_;rintro _ w0 ⟨rfl,H⟩;obtain ⟨a3,N,F⟩:=gZ G H (b:=w);(try simp at N);(first|simp [go_sem,L] at F|simp [go_sem] at F|skip);replace L:=fP F;clear F H G
  rw [hh];go_wp2_with fail;refine aK w zB fun G=>?_;refine (eT c a b p q _ (aT H1 G) Z1.out (aT H2 G) Z2.out m1 m2).mono ?_;rintro _ w2 ⟨⟨v1,v2,rfl,Y,Z⟩,J⟩;obtain ⟨a5,R,F⟩:=gZ G J (b:=w);(try simp at R);(first|simp [go_sem,L] at F|simp [go_sem] at F|skip);replace L:=fP F;clear F J G
  have d1:=mD Y (w+1+1+1+1);have d2:=mD Z (w+1+1+1+1);have p1:=aL (lo':=w) Y tO;have p2:=aL (lo':=w) Z tO;obtain ⟨a1,q1,rfl,_⟩:=Y.seg;obtain ⟨a2,q2,rfl,_⟩:=Z.seg;have V:∀ j,j<w.heap.size+1+1+1+1→some j≠(Value.slice a1 c.cells q1).ownBlock:=fun j M e=>by have:=d1 _ e.symm;omega
  have X:∀ j,j<w.heap.size+1+1+1+1→some j≠(Value.slice a2 c.words q2).ownBlock:=fun j M e=>by have:=d2 _ e.symm;omega
  have a7:=V (w.heap.size) tO;have ab:=X (w.heap.size) tO;have a8:=V (w+1) tO;have ac:=X (w+1) tO;have a9:=V (w+1+1) tO;have ad:=X (w+1+1) tO;have aa:=V (w+1+1+1) tO;have ae:=X (w+1+1+1) tO;go_wp2_with fail;refine (D.out _ _ _ (zO p1 Y) (zO p2 Z)).mono ?_;rintro _ w3 ⟨⟨y1,y2,rfl,jF,jG,nQ,ny⟩,U⟩;have a6:Below w w w3:=Lt zB U (fun j M=>by have:=d1 j M;omega) (fun j M=>by have:=d2 j M;omega);have T:=U.2.2.2.1;(try (simp at T));have F:=QU U (b:=w);(first|simp [go_sem,L] at F|simp [go_sem] at F|skip);replace L:=fP F;clear F
  clear U;exact Oi
theorem Ba (c:Ch) (h:Ha) (a b:Option Addr) (p q:Nat) (w:World) (h1:gG w w a c.cells) (z1:a=none→p=0) (h2:gI w w b c.words) (z2:b=none→q=0) (R:bC c h 23 25 0=true) (hh:jR c h.mine=true) (Y:h.pos=25) :
    (∀ (hc:(h.code == 1)=true),Calls prog 192 #[.agg (aH c (.slice a c.cells p) (.slice b c.words q)),.agg (aB h)] w fun r w'=>dU w w' (bJ c h) r) ∧
    (∀ (hc:(h.code == 1)=false),Calls prog 192 #[.agg (aH c (.slice a c.cells p) (.slice b c.words q)),.agg (aB h)] w fun r w'=>dU w w' (bJ c h) r):=by
  constructor
  case' left =>
    intro hc;have T:Hid (0=0):=rfl
  case' right =>
    intro hc;have U:Hid (0=0):=rfl
  all_goals
    obtain ⟨k1,k2,_,_⟩:=cO R;obtain ⟨n1,n2⟩:=fT k1;have m1:c.cells.length≤1099511627776:=tO;have m2:c.words.length≤1099511627776:=tO;have H1:=aA h1;have H2:=aA h2;have Z1:=aA z1;have Z2:=aA z2;obtain ⟨c1,c2⟩:=iW k2;obtain ⟨i,X⟩:∃ i:Nat,h.cell=(i:Int):=⟨h.cell.toNat,by omega⟩;have hi:i<c.cells.length:=tO
    first
    | (replace T:=T;have e:bJ c h=done (bZ c i 9) (aM 3 0):=by simp at hc;simp [bJ,R,hh,Y,X,vE,hc])
    | (replace U:=U;have e:bJ c h=done (bZ c i 10) (aM 3 0):=by simp at hc;simp [bJ,R,hh,Y,X,vE,hc])
    rw [e]
    first
    | (replace T:=T
       have ST:=aA fun v1 v2 W=>mo c i 9 v1 v2 w W
       have D:=fun v1 v2 W=>bV (bZ c i 9) (aM 3 0) v1 v2 w W)
    | (replace U:=U
       have ST:=aA fun v1 v2 W=>mo c i 10 v1 v2 w W
       have D:=fun v1 v2 W=>bV (bZ c i 10) (aM 3 0) v1 v2 w W)
    simp only [nO,mH] at D
    first
    | (replace T:=T;generalize done (bZ c i 9) (aM 3 0)=x at *)
    | (replace U:=U;generalize done (bZ c i 10) (aM 3 0)=x at *)
    replace D:=aA D;clear h1 h2 z1 z2 e k1 k2 n1 n2 c1 c2;go_enter func192,ntmps192;go_wp2_with fail;refine aK w zB fun H=>?_;refine (eQ c h 23 25 0 a b p q _ (aT H1 H) (aT H2 H)).mono ?_;rintro _ w1 ⟨rfl,M⟩;obtain ⟨a8,a0,F⟩:=gZ H M (b:=w);(try simp at a0);(try simp [go_sem] at F);replace J:=fP F;clear F M H
    rw [R];go_wp2_with fail;refine aK w zB fun H=>?_;refine (wU c h.mine _ _ _ _ _).mono ?_;rintro _ w0 ⟨rfl,L⟩;obtain ⟨a7,Z,F⟩:=gZ H L (b:=w);(try simp at Z);(first|simp [go_sem,J] at F|simp [go_sem] at F|skip);replace J:=fP F;clear F L H
    rw [hh];go_wp2_with fail;refine aK w zB fun H=>?_;refine (eT c a b p q _ (aT H1 H) Z1.out (aT H2 H) Z2.out m1 m2).mono ?_;rintro _ w2 ⟨⟨v1,v2,rfl,V,o2⟩,N⟩;obtain ⟨a9,a3,F⟩:=gZ H N (b:=w);(try simp at a3);(first|simp [go_sem,J] at F|simp [go_sem] at F|skip);replace J:=fP F;clear F N H
    have d1:=mD V (w+1+1+1+1);have d2:=mD o2 (w+1+1+1+1);have p1:=aL (lo':=w) V tO;have p2:=aL (lo':=w) o2 tO;obtain ⟨a1,q1,rfl,_⟩:=V.seg;obtain ⟨a2,q2,rfl,_⟩:=o2.seg;have nw:∀ j,(j<w.heap.size+1+1+1+1∨w2.heap.size≤j)→some j≠(Value.slice a1 c.cells q1).ownBlock:=fun j hj e=>by have:=d1 _ e.symm;have:=(V.lt _ e.symm).2;omega
    have ad:=nw (w.heap.size) tO;have ae:=nw (w+1) tO;have af:=nw (w+1+1) tO;have ag:=nw (w+1+1+1) tO;have ah:=nw w2 tO;go_wp2_with fail;refine (ST.out _ _ _ (zO p1 V) (zO p2 o2) hi).mono ?_;rintro _ w4 ⟨rfl,s1,s2,G⟩;have a5:=G.size;(try (simp at a5));have F:=And.intro (bM G (b:=w2) tS dM) <| And.intro (bM G (b:=w+1+1+1) tS dM) <| And.intro (bM G (b:=w+1+1) tS dM) <| And.intro (bM G (b:=w+1) tS dM) <| bM G (b:=w) tS dM;(first|simp [go_sem,J] at F|simp [go_sem] at F|skip);replace J:=ng F;clear F
    have ab:Below w w w4:=mO zB G tS (fun k R=>by have:=d1 k R;omega);clear G;go_wp2_with fail;refine aK w zB fun H=>?_;refine aK w4 zB fun bk=>?_;refine (iy _ _ _).mono ?_;rintro _ w5 ⟨rfl,I⟩;obtain ⟨ac,a6,F⟩:=gZ H I (b:=w);(try simp at a6);(first|simp [go_sem,J] at F|simp [go_sem] at F|skip);replace J:=fP F;clear F;have K:=bT bk I;clear I H bk
    have r1:=own_below s1 K;have r2:=own_below s2 K;go_wp2_with fail;refine aK w zB fun H=>?_;refine (D.out _ _ _ (zO r1 V) (zO r2 o2)).mono ?_;rintro _ w3 ⟨⟨y1,y2,rfl,jF,jG,nQ,ny⟩,O⟩;obtain ⟨aa,a4,F⟩:=gZ H O (b:=w);(try simp at a4);(first|simp [go_sem,J] at F|simp [go_sem] at F|skip);replace J:=fP F;clear F O H
    exact Oi
theorem Nl (c:Ch) (h:Ha) (a b:Option Addr) (p q:Nat) (w:World) (h1:gG w w a c.cells) (z1:a=none→p=0) (h2:gI w w b c.words) (I:b=none→q=0) (H:bC c h 23 25 0=true) (G:jR c h.mine=true) (F:h.pos=25) (hc:(h.code == 1)=true) :
    Calls prog 192 #[.agg (aH c (.slice a c.cells p) (.slice b c.words q)),.agg (aB h)] w fun r w'=>dU w w' (bJ c h) r:=(Ba c h a b p q w h1 z1 h2 I H G F).1 hc
theorem Nn (c:Ch) (h:Ha) (a b:Option Addr) (p q:Nat) (w:World) (h1:gG w w a c.cells) (z1:a=none→p=0) (h2:gI w w b c.words) (I:b=none→q=0) (H:bC c h 23 25 0=true) (G:jR c h.mine=true) (F:h.pos=25) (hc:(h.code == 1)=false) :
    Calls prog 192 #[.agg (aH c (.slice a c.cells p) (.slice b c.words q)),.agg (aB h)] w fun r w'=>dU w w' (bJ c h) r:=(Ba c h a b p q w h1 z1 h2 I H G F).2 hc
theorem Qu (c:Ch) (h:Ha) (a b:Option Addr) (p q:Nat) (w:World) (h1:gG w w a c.cells) (z1:a=none→p=0) (h2:gI w w b c.words) (z2:b=none→q=0) (hk:bC c h 23 25 0=true) (hh:jR c h.mine=true) (ai:h.pos=24) (hc:(h.code == 1)=false) :
  Calls prog 192 #[.agg (aH c (.slice a c.cells p) (.slice b c.words q)),.agg (aB h)] w fun r w'=>dU w w' (bJ c h) r:=by
 obtain ⟨k1,k2,_,_⟩:=cO hk;obtain ⟨n1,n2⟩:=fT k1;have m1:c.cells.length≤1099511627776:=tO;have m2:c.words.length≤1099511627776:=tO;have H1:=aA h1;have H2:=aA h2;have Z1:=aA z1;have Z2:=aA z2;obtain ⟨c1,c2⟩:=iW k2;obtain ⟨i,ah⟩:∃ i:Nat,h.cell=(i:Int):=⟨h.cell.toNat,by omega⟩;have hi:i<c.cells.length:=tO;have e:bJ c h=done c (aM 2 (cellAt c h.cell).e):=by simp at hc;simp [bJ,hk,hh,ai,hc]
 rw [e];obtain ⟨F,Z,rfl,hb,J⟩:∃ Y o,a=some ⟨Y,o,none⟩∧Y<w.heap.size∧w.cell? ⟨Y,o+i*3+1,none⟩=some (.int .i64 (cellAt c h.cell).e):=by
  rcases H1.out with h0|⟨Y,o',e,h1,h2⟩
  ·omega
  ·exact ⟨Y,o',e,h1,by simpa [jy,cellAt,ah,C3.val] using h2 i 1 hi tO⟩
 have D:=aA fun v1 v2 W=>bV (c) (aM 2 (cellAt c h.cell).e) v1 v2 w W
 generalize done c (aM 2 (cellAt c h.cell).e)=x at *;generalize (cellAt c h.cell).e=el at *;clear h1 h2 z1 z2 e k1 k2 n1 n2 c1 c2;go_enter func192,ntmps192;go_wp2_with fail;refine aK w zB fun F=>?_;refine (eQ c h 23 25 0 _ b p q _ (aT H1 F) (aT H2 F)).mono ?_;rintro _ w1 ⟨rfl,N⟩;obtain ⟨ak,a6,I⟩:=gZ F N (b:=w);(try simp at a6);(try simp [go_sem] at I);replace K:=fP I;clear I N F
 rw [hk];go_wp2_with fail;refine aK w zB fun F=>?_;refine (wU c h.mine _ _ _ _ _).mono ?_;rintro _ w0 ⟨rfl,M⟩;obtain ⟨aj,a5,I⟩:=gZ F M (b:=w);(try simp at a5);(first|simp [go_sem,K] at I|simp [go_sem] at I|skip);replace K:=fP I;clear I M F
 rw [hh];go_wp2_with fail;refine aK w zB fun F=>?_;refine (eT c _ b p q _ (aT H1 F) Z1.out (aT H2 F) Z2.out m1 m2).mono ?_;rintro _ X ⟨⟨v1,v2,rfl,o1,o2⟩,O⟩;obtain ⟨a0,a7,I⟩:=gZ F O (b:=w);(try simp at a7);(first|simp [go_sem,K] at I|simp [go_sem] at I|skip);replace K:=fP I;clear I O F
 have d1:=mD o1 (w+1+1+1+1);have d2:=mD o2 (w+1+1+1+1);have p1:=aL (lo':=w) o1 tO;have p2:=aL (lo':=w) o2 tO;obtain ⟨a1,q1,rfl,_⟩:=o1.seg;obtain ⟨a2,q2,rfl,_⟩:=o2.seg;obtain ⟨k0,k1,k2,k3⟩:=pz (a:=w) (b:=X);have aa:=(a0.cell (p:=⟨F,Z+i*3+1,none⟩) hb).trans J;have aw:(0:Int)≤(i:Int):=tO;have ax:(i:Int)<(c.cells.length:Int):=tO;have au:F<X.heap.size:=tO;have av:F≠X.heap.size:=tO;have am:F<w.heap.size+1:=tO
 have ap:F≠w.heap.size+1:=tO;have an:F<w.heap.size+1+1:=tO;have aq:F≠w.heap.size+1+1:=tO;have ao:F<w.heap.size+1+1+1:=tO;have ar:F≠w.heap.size+1+1+1:=tO;go_wp2_with fail
 go_region_held3 (fun w'=>hp w' X=some (.cells (aH c (.slice a1 c.cells q1) (.slice a2 c.words q2)) 31)∧w'.cell? ⟨w,4,none⟩=some (.slice (some ⟨F,Z,none⟩) c.cells p)∧w'.cell? ⟨w+1,3,none⟩=some (.int .i64 i)∧w'.cell? ⟨F,Z+i*3+1,none⟩=some (.int .i64 el))
  (first|(simp [*,go_sem]))
  (first|((go_at_call 130;refine aK w zB fun F=>?_;refine aK X zB fun bk=>?_;refine (iy _ _ _).mono ?_;rintro _ w5 ⟨rfl,G⟩;have a4:=bT F G;have a9:=G.size;(try simp at a9);have I:=And.intro (hQ G (b:=X)) <| And.intro (hQ G (b:=w+1+1+1)) <| And.intro (hQ G (b:=w+1+1)) <| And.intro (hQ G (b:=w+1)) <| hQ G (b:=w);(first|simp [go_sem,K,k0,k1,k2,k3] at I|simp [go_sem] at I|skip);replace K:=ng I;clear I;have L:=bT bk G;clear G F bk);have ab:=(a4.cell (p:=⟨F,Z+i*3+1,none⟩) hb).trans J;have al:F<w5.heap.size:=tO;have r1:=own_below p1 L;have r2:=own_below p2 L)|((go_at_call 198;refine aK w zB fun F=>?_;refine (D.out _ _ _ (zO r1 o1) (zO r2 o2)).mono ?_;rintro _ w3 ⟨⟨y1,y2,rfl,U,V,ad,ae⟩,H⟩;have a3:=bT F H;have a8:=H.size;(try simp at a8);have I:=And.intro (hQ H (b:=X)) <| And.intro (hQ H (b:=w+1+1+1)) <| And.intro (hQ H (b:=w+1+1)) <| And.intro (hQ H (b:=w+1)) <| hQ H (b:=w);(first|simp [go_sem,K,k0,k1,k2,k3] at I|simp [go_sem] at I|skip);replace K:=ng I;clear I H F);have ac:=(a3.cell (p:=⟨F,Z+i*3+1,none⟩) hb).trans J;obtain ⟨⟨R,T⟩,af,ag⟩:=BI (w:=w) (w+1+1+1+1) ad ae d1 d2;obtain ⟨ya,yp,rfl,_⟩:=U.seg;obtain ⟨yb,yq,rfl,_⟩:=V.seg))
 all_goals go_wp2
 all_goals (refine rE results192 rfl (bN x.1 (.slice ya x.1.cells yp) (.slice yb x.1.words yq) tY) rfl (aQ x.2.1 tY) ⟨⟨_,_,rfl,?_,?_,af,ag⟩,zB⟩)
 all_goals (first|exact zP U U R|skip)
 all_goals (first|exact zP V V T|skip)
theorem vI (c:Ch) (h:Ha) (a b:Option Addr) (p q:Nat) (w:World) (h1:gG w w a c.cells) (z1:a=none→p=0) (h2:gI w w b c.words) (H:b=none→q=0) :
  Calls prog 192 #[.agg (aH c (.slice a c.cells p) (.slice b c.words q)),.agg (aB h)] w fun r w'=>dU w w' (bJ c h) r:=by
 cases F:bC c h 23 25 0 with
 | false=>exact Ni c h a b p q w h1 h2 F
 | true =>
  cases G:jR c h.mine with
  | false=>exact Nj c h a b p q w h1 h2 F G
  | true =>
   obtain ⟨I,_,J,K⟩:=cO F;have hp:h.pos=23∨h.pos=24∨h.pos=25:=tO;rcases hp with hp|hp|hp
   ·exact Qs c h a b p q w h1 z1 h2 H F G hp
   ·cases hc:h.code == 1 with
    | true=>exact Nk c h a b p q w h1 h2 F G hp hc
    | false=>exact Qu c h a b p q w h1 z1 h2 H F G hp hc
   ·cases hc:h.code == 1 with
    | true=>exact Nl c h a b p q w h1 z1 h2 H F G hp hc
    | false=>exact Nn c h a b p q w h1 z1 h2 H F G hp hc
theorem lC (c:Ch) (a b:Option Addr) (p q:Nat) (w:World) (h1:gG w w a c.cells) (h2:gI w w b c.words) (F:c.cells.length≤maxLen) (G:c.words.length≤maxLen) :
  Calls prog 98 #[.agg (aH c (.slice a c.cells p) (.slice b c.words q))] w fun r w'=>r=.returned (.bool (aN c))∧Below w w w':=iY c a b p q w h1 h2 F G
theorem yR (c:Ch) (a b:Option Addr) (p q:Nat) (w:World) (h1:gG w w a c.cells) (z1:a=none→p=0) (h2:gI w w b c.words) (H:b=none→q=0) (F:c.cells.length≤1099511627776) (G:c.words.length≤1099511627776) :
  Calls prog 101 #[.agg (aH c (.slice a c.cells p) (.slice b c.words q))] w fun r w'=>(∃ v1 v2,r=.returned (.agg (aH c v1 v2))∧aF w' w v1 c.cells∧aI w' w v2 c.words)∧Below w w w':=rH c a b p q w h1 z1 h2 H F G
def pK (x:St):St:=if aN x.1 && aU x.2.1 then x else nothing
theorem KZ {w:World} {lo:Nat} {e:TypeId} {k n p:Nat} {a:Option Addr} {G:List Value} (h:w.ownsRow lo e k (.slice a n p) n G):n≤maxLen:=by
 rcases h.2 with ⟨_,h1⟩|⟨g,cap,F,_,_,_,h1,h2,_⟩
 ·omega
 ·exact Nat.le_trans h1 h2
theorem kI {w w':World} {v1 v2:Value} {lo lo' b k J n K:Nat} {e H T:TypeId} {x:Array Value} {N G:List Value} (F:hp w b=some (.cells x T)) (I:ni v1.ownBlock v2.ownBlock w w') (L:w.ownsRow lo e k v1 n N) (M:w.ownsRow lo' H J v2 K G) (h1:e≠T) (h2:H≠T):hp w' b=some (.cells x T) :=
 (Fy I (bO F).2.2 (fun e=>fe L F h1 _ e.symm rfl) (fun e=>fe M F h2 _ e.symm rfl)).trans F
theorem ma.onl {w w':World} {v v1 v2:Value} {lo F G k N n O:Nat} {e I T:TypeId} {x:Array Value} {V H:List Value} (h:ma w v lo x T) (K:ni v1.ownBlock v2.ownBlock w w') (R:w.ownsRow F e k v1 n V) (U:w.ownsRow G I N v2 O H) (h1:e≠T) (h2:I≠T):ma w' v lo x T:=by
 obtain ⟨b,J,L,M⟩:=h;exact ⟨b,J,L,kI M K R U h1 h2⟩
theorem uG (F:Nat) (x:St) (c:Ch) (h:Ha) (a b:Option Addr) (p q:Nat) (w:World) (h1:gG w w a c.cells) (z1:a=none→p=0) (h2:gI w w b c.words) (z2:b=none→q=0) (hc:aN c=true) (hh:aU h=true) (eg:∀ args w,(callFunc F args).run prog w=.ok (.enter F args) w) (HF:∀ (v1 v2:Value) (lo:Nat) (W:World),aF W lo v1 c.cells→aI W lo v2 c.words→lo≤W.heap.size→Calls prog F #[.agg (aH c v1 v2),.agg (aB h)] W fun r w'=>eB W w' lo v1 v2 x r) :
  Calls prog 236 #[.func (.func F) #[] #[],.agg (aH c (.slice a c.cells p) (.slice b c.words q)),.agg (aB h)] w fun r w'=>dU w w' (pK x) r:=by
 obtain ⟨n1,n2⟩:=mW hc;have l1:c.cells.length≤maxLen:=by unfold maxLen;omega
 have l2:c.words.length≤maxLen:=by unfold maxLen;omega
 have m1:c.cells.length≤1099511627776:=tO;have m2:c.words.length≤1099511627776:=tO;have H1:=aA h1;have H2:=aA h2;have Z1:=aA z1;have Z2:=aA z2;clear h1 h2 z1 z2 n1 n2;obtain ⟨X,a7⟩:∃ X,X=pK x:=⟨_,rfl⟩;rw [← a7];have ao:=aA HF;clear HF;go_enter func236,ntmps236;go_wp2_with fail;refine aK w zB fun bb=>?_;refine (lC c a b p q _ (aT H1 bb) (aT H2 bb) l1 l2).mono ?_;rintro _ w1 ⟨rfl,aa⟩;have ar:Below w w w1:=bT bb aa;have ap:=aa.size;(try simp at ap);have zz:=q4 aa (b:=w);(try simp [go_sem] at zz);(try clear eH iH iI gm);(try clear fV jW jX iE);(try clear Y ac a9 a3);(try clear a6 aj ah af);obtain ⟨eH,fV,Y,a6⟩:=zz;obtain ⟨iH,iI,gm⟩:=bO eH;obtain ⟨jW,jX,iE⟩:=bO fV;obtain ⟨ac,a9,a3⟩:=bO Y;obtain ⟨aj,ah,af⟩:=bO a6;clear aa bb
 rw [hc];go_wp2_with fail;refine aK w zB fun bb=>?_;refine (jN h _).mono ?_;rintro _ w2 ⟨rfl,ab⟩;have a1:Below w w w2:=bT bb ab;have aq:=ab.size;(try simp at aq);have zz:=q4 ab (b:=w);(first|simp [go_sem,eH,fV,Y,a6,af,a3,iE,gm] at zz|simp [go_sem] at zz|skip);(try clear eH iH iI gm);(try clear fV jW jX iE);(try clear Y ac a9 a3);(try clear a6 aj ah af);obtain ⟨eH,fV,Y,a6⟩:=zz;obtain ⟨iH,iI,gm⟩:=bO eH;obtain ⟨jW,jX,iE⟩:=bO fV;obtain ⟨ac,a9,a3⟩:=bO Y;obtain ⟨aj,ah,af⟩:=bO a6;clear ab bb
 rw [hh];go_upto_region 3 with fail
 refine lh [[],[],[1],[],[0,1,2,3],[0,1,2,3,4],[0,1,2,3,4,5],[0,1,2,3,4,5],[0,1,2,3,4,5],[],[],[0,1,2,3,4,5,6,9],[0,1,2,3,4,5,7,10],[0,1,2,3,4,5,8]] [25,26,27,28,29,24,30,31,32,9,10,11] (fun l s wx=>(Below w2 w2 wx)∧(l 0=true→s 25=.func (.func F) #[] #[])∧(l 1=true→s 26=.agg (aH c (.slice a c.cells p) (.slice b c.words q)))∧(l 2=true→l 4=false→s 27=.agg (aH c (s 1001) (s 1002))∧aF wx w2 (s 1001) c.cells∧aI wx w2 (s 1002) c.words)∧(l 3=true→s 28=.agg (aB h))∧(l 4=true→s 29=.tuple #[.agg (aH x.1 (s 1003) (s 1004)),.agg (aB x.2.1),.bool x.2.2]∧aF wx w2 (s 1003) x.1.cells∧aI wx w2 (s 1004) x.1.words)∧(l 5=true→s 24=.tuple #[.agg (aH x.1 (s 1003) (s 1004)),.agg (aB x.2.1),.bool x.2.2])∧(l 6=true→s 30=.agg (aH x.1 (s 1003) (s 1004)))∧(l 7=true→s 31=.agg (aB x.2.1))∧(l 8=true→s 32=.bool x.2.2)∧(l 9=true→ma wx (s 9) w2 (cond (l 11) (aH x.1 (s 1003) (s 1004)) (aH Ch.zero (.slice none 0 0) (.slice none 0 0))) 31)∧(l 10=true→ma wx (s 10) w2 (cond (l 12) (aB x.2.1) (aB Ha.zero)) 49)∧(l 13=true→s 11=.bool x.2.2)) (fun s=>⟨(Below.refl _ _).drew,nB,nB,nB,nB,nB,nB,nB,nB,nB,nB,nB,nB⟩) ?_ ?_
 refine ⟨?_,?_,?_,?_,?_,?_,?_,?_,?_,?_,?_,?_,?_,?_,trivial⟩;iterate 14 (intro l s wx hl hd hn G K hK;rotate_left)
 ·intro l s w8 a0 G
  have hB:=G.1;obtain ⟨_,a4,a5⟩:=((jC G).2.1 (a0 4 rfl));obtain ⟨gc,ea,az,H⟩:=((jD G).2.2.1 (a0 9 rfl));obtain ⟨gh,eb,b0,I⟩:=((jD G).2.2.2.1 (a0 10 rfl));have ec:=((jC (jD G)) (a0 13 rfl));rw [a0 11 rfl] at H;rw [a0 12 rfl] at I;dsimp only [cond] at H I;simp only [ea,eb,ec];clear ea eb ec G a0;generalize s 1003=v1 at *;generalize s 1004=v2 at *;have au:Below w w w8:=bT a1 hB;have z8:=iC fV hB;have z9:=iC eH hB
  have b1:=(bO eH).2.2;clear a6 aj ah af Y ac a9 a3 fV jW jX iE eH iH iI gm;have fV:=z8;have eH:=z9;clear z8 z9;have b2:=hB.size;have av:w.heap.size+1+1<gc:=tO;have aw:w.heap.size+1+1+1<gc:=tO;have ax:w.heap.size+1+1<gh:=tO;have ay:w.heap.size+1+1+1<gh:=tO;clear ao;obtain ⟨c2,h2,ok⟩:=x;replace a4:aF w8 (w+1+1+1+1) v1 c2.cells:=aL a4 tO;replace a5:aI w8 (w+1+1+1+1) v2 c2.words:=aL a5 tO;dsimp only at H I ⊢
  obtain ⟨ya,yp,rfl,G1⟩:=a4.seg;obtain ⟨yb,yq,rfl,G2⟩:=a5.seg;obtain ⟨U,O,M⟩:=bO H;obtain ⟨V,R,N⟩:=bO I;obtain ⟨jW,jX,iE⟩:=bO fV;obtain ⟨iH,iI,gm⟩:=bO eH;have L1:=KZ a4;have L2:=KZ a5;have K1:=aA G1;have K2:=aA G2;clear G1 G2;have T:=aA fun W=>jJ W w (.slice none 0 0) (.slice none 0 0)
  have d1:∀ j,(Value.slice none 0 0).ownBlock=some j→w.heap.size+1+1+1+1≤j:=fun j hj=>by cases hj
  have d2:=d1;cases ad:aN c2 with
  | false =>
   have E:X=nothing:=a7.trans (by simp [pK,ad]);rw [← E] at T;clear E a7;go_wp2_with fail;refine (lC c2 ya yb yp yq _ ((K1.out.below zB).more tS) ((K2.out.below zB).more tS) L1 L2).mono ?_;rintro _ w9 ⟨rfl,J⟩;have ak:Below w w w9:=bT zB J;have al:Below w8 w8 w9:=bT zB J;have a2:=J.size;(try (simp at a2));have zz:=hQ J (b:=gc);(first|(simp [go_sem,H,M] at zz)|(simp [go_sem] at zz));(try clear U O);(try clear H);have H:=zz;clear zz;(try clear M);obtain ⟨U,O,M⟩:=bO H;have zz:=hQ J (b:=gh);(first|(simp [go_sem,I,N] at zz)|(simp [go_sem] at zz));(try clear V R);(try clear I);have I:=zz;clear zz;(try clear N);obtain ⟨V,R,N⟩:=bO I;have zz:=hQ J (b:=w+1+1);(first|(simp [go_sem,fV,iE] at zz)|(simp [go_sem] at zz));(try clear jW jX);(try clear fV);have fV:=zz;clear zz;(try clear iE);obtain ⟨jW,jX,iE⟩:=bO fV;have zz:=hQ J (b:=w+1+1+1);(first|(simp [go_sem,eH,gm] at zz)|(simp [go_sem] at zz));(try clear iH iI);(try clear eH);have eH:=zz;clear zz;(try clear gm);obtain ⟨iH,iI,gm⟩:=bO eH
   rw [ad];exact Ul
  | true =>
   cases ai:aU h2 with
   | false =>
    have E:X=nothing:=a7.trans (by simp [pK,ai]);rw [← E] at T;clear E a7;go_wp2_with fail;refine (lC c2 ya yb yp yq _ ((K1.out.below zB).more tS) ((K2.out.below zB).more tS) L1 L2).mono ?_;rintro _ w9 ⟨rfl,J⟩;have ak:Below w w w9:=bT zB J;have al:Below w8 w8 w9:=bT zB J;have a2:=J.size;(try (simp at a2));have zz:=hQ J (b:=gc);(first|(simp [go_sem,H,M] at zz)|(simp [go_sem] at zz));(try clear U O);(try clear H);have H:=zz;clear zz;(try clear M);obtain ⟨U,O,M⟩:=bO H;have zz:=hQ J (b:=gh);(first|(simp [go_sem,I,N] at zz)|(simp [go_sem] at zz));(try clear V R);(try clear I);have I:=zz;clear zz;(try clear N);obtain ⟨V,R,N⟩:=bO I;have zz:=hQ J (b:=w+1+1);(first|(simp [go_sem,fV,iE] at zz)|(simp [go_sem] at zz));(try clear jW jX);(try clear fV);have fV:=zz;clear zz;(try clear iE);obtain ⟨jW,jX,iE⟩:=bO fV;have zz:=hQ J (b:=w+1+1+1);(first|(simp [go_sem,eH,gm] at zz)|(simp [go_sem] at zz));(try clear iH iI);(try clear eH);have eH:=zz;clear zz;(try clear gm);obtain ⟨iH,iI,gm⟩:=bO eH
    rw [ad];go_wp2_with fail;refine (jN h2 _).mono ?_;rintro _ ag ⟨rfl,L⟩;have an:Below w w ag:=bT zB L;have Z:Below w8 w8 ag:=bT zB L;have a8:=L.size;(try (simp at a8));have zz:=hQ L (b:=gc);(first|(simp [go_sem,H,M] at zz)|(simp [go_sem] at zz));(try clear U O);(try clear H);have H:=zz;clear zz;(try clear M);obtain ⟨U,O,M⟩:=bO H;have zz:=hQ L (b:=gh);(first|(simp [go_sem,I,N] at zz)|(simp [go_sem] at zz));(try clear V R);(try clear I);have I:=zz;clear zz;(try clear N);obtain ⟨V,R,N⟩:=bO I;have zz:=hQ L (b:=w+1+1);(first|(simp [go_sem,fV,iE] at zz)|(simp [go_sem] at zz));(try clear jW jX);(try clear fV);have fV:=zz;clear zz;(try clear iE);obtain ⟨jW,jX,iE⟩:=bO fV;have zz:=hQ L (b:=w+1+1+1);(first|(simp [go_sem,eH,gm] at zz)|(simp [go_sem] at zz));(try clear iH iI);(try clear eH);have eH:=zz;clear zz;(try clear gm);obtain ⟨iH,iI,gm⟩:=bO eH
    rw [ai];have r1:=own_below a4 Z;have r2:=own_below a5 Z;exact Ul
   | true =>
    have E:=aA (a7.trans (show pK (c2,h2,ok)=(c2,h2,ok) by simp [pK,ad,ai]));clear a7;go_wp2_with fail;refine (lC c2 ya yb yp yq _ ((K1.out.below zB).more tS) ((K2.out.below zB).more tS) L1 L2).mono ?_;rintro _ w9 ⟨rfl,J⟩;have ak:Below w w w9:=bT zB J;have al:Below w8 w8 w9:=bT zB J;have a2:=J.size;(try (simp at a2));have zz:=hQ J (b:=gc);(first|(simp [go_sem,H,M] at zz)|(simp [go_sem] at zz));(try clear U O);(try clear H);have H:=zz;clear zz;(try clear M);obtain ⟨U,O,M⟩:=bO H;have zz:=hQ J (b:=gh);(first|(simp [go_sem,I,N] at zz)|(simp [go_sem] at zz));(try clear V R);(try clear I);have I:=zz;clear zz;(try clear N);obtain ⟨V,R,N⟩:=bO I;have zz:=hQ J (b:=w+1+1);(first|(simp [go_sem,fV,iE] at zz)|(simp [go_sem] at zz));(try clear jW jX);(try clear fV);have fV:=zz;clear zz;(try clear iE);obtain ⟨jW,jX,iE⟩:=bO fV;have zz:=hQ J (b:=w+1+1+1);(first|(simp [go_sem,eH,gm] at zz)|(simp [go_sem] at zz));(try clear iH iI);(try clear eH);have eH:=zz;clear zz;(try clear gm);obtain ⟨iH,iI,gm⟩:=bO eH
    rw [ad];go_wp2_with fail;refine (jN h2 _).mono ?_;rintro _ ag ⟨rfl,L⟩;have an:Below w w ag:=bT zB L;have Z:Below w8 w8 ag:=bT zB L;have a8:=L.size;(try (simp at a8));have zz:=hQ L (b:=gc);(first|(simp [go_sem,H,M] at zz)|(simp [go_sem] at zz));(try clear U O);(try clear H);have H:=zz;clear zz;(try clear M);obtain ⟨U,O,M⟩:=bO H;have zz:=hQ L (b:=gh);(first|(simp [go_sem,I,N] at zz)|(simp [go_sem] at zz));(try clear V R);(try clear I);have I:=zz;clear zz;(try clear N);obtain ⟨V,R,N⟩:=bO I;have zz:=hQ L (b:=w+1+1);(first|(simp [go_sem,fV,iE] at zz)|(simp [go_sem] at zz));(try clear jW jX);(try clear fV);have fV:=zz;clear zz;(try clear iE);obtain ⟨jW,jX,iE⟩:=bO fV;have zz:=hQ L (b:=w+1+1+1);(first|(simp [go_sem,eH,gm] at zz)|(simp [go_sem] at zz));(try clear iH iI);(try clear eH);have eH:=zz;clear zz;(try clear gm);obtain ⟨iH,iI,gm⟩:=bO eH
    rw [ai];have r1:=own_below a4 Z;have r2:=own_below a5 Z;go_wp2_with fail
    go_region
    go_wp2;refine rE results236 rfl (bN c2 (.slice ya c2.cells yp) (.slice yb c2.words yq) tY) rfl (aQ h2 tY) ⟨⟨.slice ya c2.cells yp,.slice yb c2.words yq,by rw [E.out];rfl,?_,?_,fun j hj=>.inr (by have:=(a4.lt j hj).1;omega),fun j hj=>.inr (by have:=(a5.lt j hj).1;omega)⟩,zB⟩
    ·rw [E.out]
     refine aL (lo:=w+1+1+1+1) ?_ tO;exact zO r1 a4
    ·rw [E.out]
     refine aL (lo:=w+1+1+1+1) ?_ tO;exact zO r2 a5
 ·go_simp
  refine hK.out (upd s 25 (.func (.func F) #[] #[])) _ _ gM (kA (kX (fun _=>rfl) id) G.out)
 ·have z:=iC a6 G.out.1
  go_simp;refine hK.out (upd s 26 (.agg (aH c (.slice a c.cells p) (.slice b c.words q)))) _ _ gM (kB (kX (fun _=>rfl) id) G.out)
 ·have e1:=(G.out.2.2.1 (hd 1 rfl))
  go_simp
  go_at_call 101
  refine (yR c a b p q _ ((H1.out.below (bT a1 G.out.1)).more (Below.size (bT a1 G.out.1))) Z1.out ((H2.out.below (bT a1 G.out.1)).more (Below.size (bT a1 G.out.1))) Z2.out m1 m2).mono ?_;rintro _ wy ⟨⟨v1,v2,rfl,X1,X2⟩,hE⟩;refine hK.out (upd (upd (upd s 1001 (v1)) 1002 (v2)) 27 (.agg (aH c v1 v2))) _ _ pQ ⟨bT G.out.1 hE,G.out.2.1,G.out.2.2.1,fun _ _=>⟨rfl,aL X1 (Below.size G.out.1),aL X2 (Below.size G.out.1)⟩,G.out.2.2.2.2.1,nU (hn 4 rfl),nU (hn 5 rfl),nU (hn 6 rfl),nU (hn 7 rfl),nU (hn 8 rfl),fun h=>ma.below ((jD G.out).2.2.1 h) hE,fun h=>ma.below ((jD G.out).2.2.2.1 h) hE,nU (hn 13 rfl)⟩
 ·have z:=iC Y G.out.1
  go_simp;refine hK.out (upd s 28 (.agg (aB h))) _ _ gM (kC (kX (fun _=>rfl) id) G.out)
 ·have e0:=(G.out.2.1 (hd 0 rfl))
  have e3:=(G.out.2.2.2.2.1 (hd 3 rfl));obtain ⟨e2,o1,o2⟩:=(G.out.2.2.2.1 (hd 2 rfl)) hl;go_simp;refine (ao.out _ _ w2 _ o1 o2 (Below.size G.out.1)).mono ?_;rintro _ wy ⟨⟨y1,y2,rfl,X1,X2,_,_⟩,hO⟩;refine hK.out (upd (upd (upd s 1003 (y1)) 1004 (y2)) 29 (.tuple #[.agg (aH x.1 y1 y2),.agg (aB x.2.1),.bool x.2.2])) _ _ (by simp [aX,e0,e3,e2] <;> rfl) ⟨Lt G.out.1 hO (fun j hj=>(o1.lt j hj).1) (fun j hj=>(o2.lt j hj).1),G.out.2.1,G.out.2.2.1,fun _ h4=>absurd h4 (by rw [show upd l 4 true 4=true from rfl];decide),G.out.2.2.2.2.1,fun _=>⟨rfl,X1,X2⟩,nU (hn 5 rfl),nU (hn 6 rfl),nU (hn 7 rfl),nU (hn 8 rfl),fun h=>by (have ee:l 11=false:=hn 11 rfl);(have F:=(jD G.out).2.2.1 h);rw [ee] at F;rw [show upd l 4 true 11=false from ee];exact F.onl hO o1 o2 cB cB,fun h=>by (have ee:l 12=false:=hn 12 rfl);(have F:=(jD G.out).2.2.2.1 h);rw [ee] at F;rw [show upd l 4 true 12=false from ee];exact F.onl hO o1 o2 cB cB,nU (hn 13 rfl)⟩
 ·have e4:=((jC G.out).2.1 (hd 4 rfl)).1
  go_simp;refine hK.out (upd s 24 (.tuple #[.agg (aH x.1 (s 1003) (s 1004)),.agg (aB x.2.1),.bool x.2.2])) _ _ zJ (kC (kB (kX (fun _=>rfl) id)) G.out)
 ·have e5:=((jC G.out).2.2.1 (hd 5 rfl))
  go_simp;refine hK.out (upd s 30 (.agg (aH x.1 (s 1003) (s 1004)))) _ _ mK (kC (kB (kA (kX (fun _=>rfl) id))) G.out)
 ·have e5:=((jC G.out).2.2.1 (hd 5 rfl))
  go_simp;refine hK.out (upd s 31 (.agg (aB x.2.1))) _ _ mK (kD (kX (fun _=>rfl) id) G.out)
 ·have e5:=((jC G.out).2.2.1 (hd 5 rfl))
  go_simp;refine hK.out (upd s 32 (.bool x.2.2)) _ _ mK (kD (kA (kX (fun _=>rfl) id)) G.out)
 ·go_simp
  refine hK.out (upd s 9 (.pointer (some ⟨wx,0,none⟩))) _ _ gM (kX (bT G.out.1 (bL _ _)) (kB (kX (fun h=>fun h4=>(let ⟨e,X1,X2⟩:=(G.out.2.2.2.1 h) h4;⟨e,own_below X1 (bL _ _),own_below X2 (bL _ _)⟩)) (kA (kX (fun h=>(let ⟨e,X1,X2⟩:=((jC G.out).2.1 h);⟨e,own_below X1 (bL _ _),own_below X2 (bL _ _)⟩)) (kC (kX (fun _=>by rw [show upd l 9 true 11=false from hn 11 rfl];exact ma.new (Below.size G.out.1)) (kX (fun h=>ma.below ((jD G.out).2.2.2.1 h) (bL _ _)) id))))))) G.out)
 ·go_simp
  refine hK.out (upd s 10 (.pointer (some ⟨wx,0,none⟩))) _ _ gM (kX (bT G.out.1 (bL _ _)) (kB (kX (fun h=>fun h4=>(let ⟨e,X1,X2⟩:=(G.out.2.2.2.1 h) h4;⟨e,own_below X1 (bL _ _),own_below X2 (bL _ _)⟩)) (kA (kX (fun h=>(let ⟨e,X1,X2⟩:=((jC G.out).2.1 h);⟨e,own_below X1 (bL _ _),own_below X2 (bL _ _)⟩)) (kC (kX (fun h=>ma.below ((jD G.out).2.2.1 h) (bL _ _)) (kX (fun _=>by rw [show upd l 10 true 12=false from hn 12 rfl];exact ma.new (Below.size G.out.1)) id))))))) G.out)
 ·have e6:=((jC G.out).2.2.2.1 (hd 6 rfl))
  have e4:=((jC G.out).2.1 (hd 4 rfl));have X1:=e4.2.1;have X2:=e4.2.2;clear e4;obtain ⟨bb,eb,ae,zb⟩:=((jD G.out).2.2.1 (hd 9 rfl));rw [hl] at zb;dsimp only [cond] at zb;obtain ⟨xa,xp,ea,_⟩:=X1.seg;obtain ⟨xb,xq,am,_⟩:=X2.seg;rw [ea,am] at e6;have zn:hp (dX wx bb (aH x.1 (.slice xa x.1.cells xp) (.slice xb x.1.words xq))) bb=some (.cells (aH x.1 (s 1003) (s 1004)) 31):=by rw [ea,am];exact o7 zb
  go_simp;refine hK.out (s) _ _ (by simp [aX,eb,e6,ea,am] <;> rfl) (kX (Ra G.out.1 ae) (kB (kX (fun _ h4=>absurd ((hd 4 rfl).symm.trans h4) cB) (kA (kX (fun h=>⟨((jC G.out).2.1 h).1,iD ((jC G.out).2.1 h).2.1 zb cB,iD ((jC G.out).2.1 h).2.2 zb cB⟩) (kC (kX (fun _=>⟨bb,eb,ae,zn⟩) (kX (fun h=>ma.far ((jD G.out).2.2.2.1 h) zb cB) id))))))) G.out)
 ·have e7:=((jD G.out).1 (hd 7 rfl))
  have e4:=((jC G.out).2.1 (hd 4 rfl));have X1:=e4.2.1;have X2:=e4.2.2;clear e4;obtain ⟨bb,eb,ae,zb⟩:=((jD G.out).2.2.2.1 (hd 10 rfl));rw [hl] at zb;dsimp only [cond] at zb;have zn:hp (dX wx bb (aB x.2.1)) bb=some (.cells (aB x.2.1) 49):=by exact o7 zb
  go_simp;refine hK.out (s) _ _ (by simp [aX,eb,e7] <;> rfl) (kX (Ra G.out.1 ae) (kB (kX (fun _ h4=>absurd ((hd 4 rfl).symm.trans h4) cB) (kA (kX (fun h=>⟨((jC G.out).2.1 h).1,iD ((jC G.out).2.1 h).2.1 zb cB,iD ((jC G.out).2.1 h).2.2 zb cB⟩) (kC (kX (fun h=>ma.far ((jD G.out).2.2.1 h) zb cB) (kX (fun _=>⟨bb,eb,ae,zn⟩) id))))))) G.out)
 ·have e8:=((jD G.out).2.1 (hd 8 rfl))
  go_simp;refine hK.out (upd s 11 (.bool x.2.2)) _ _ wP (kD (kC (fun _=>fun _=>rfl)) G.out)
theorem uH (F:Nat) (c:Ch) (h:Ha) (a b:Option Addr) (p q:Nat) (w:World) (h1:gG w w a c.cells) (z1:a=none→p=0) (h2:gI w w b c.words) (O:b=none→q=0) (M:c.cells.length≤maxLen) (N:c.words.length≤maxLen) (hc:aN c=false) :
  Calls prog 236 #[.func (.func F) #[] #[],.agg (aH c (.slice a c.cells p) (.slice b c.words q)),.agg (aB h)] w fun r w'=>dU w w' nothing r:=by
 have J:=aA h1;have K:=aA h2;have T:=aA fun W=>jJ W w (.slice none 0 0) (.slice none 0 0)
 generalize nothing=x at *;clear h1 h2 z1 O;have d1:∀ j,(Value.slice none 0 0).ownBlock=some j→w.heap.size+1+1+1+1≤j:=fun j L=>by cases L
 have d2:=d1;go_enter func236,ntmps236;go_wp2_with fail;refine aK w zB fun bb=>?_;refine (lC c a b p q _ (aT J bb) (aT K bb) M N).mono ?_;rintro _ R ⟨rfl,G⟩;obtain ⟨I,H,zz⟩:=gZ bb G (b:=w);(try simp at H);(try simp [go_sem] at zz);replace bX:=fP zz;clear zz G bb
 rw [hc];exact Ur
theorem uI (F:Nat) (c:Ch) (h:Ha) (a b:Option Addr) (p q:Nat) (w:World) (h1:gG w w a c.cells) (z1:a=none→p=0) (h2:gI w w b c.words) (X:b=none→q=0) (U:c.cells.length≤maxLen) (V:c.words.length≤maxLen) (hc:aN c=true) (O:aU h=false) :
  Calls prog 236 #[.func (.func F) #[] #[],.agg (aH c (.slice a c.cells p) (.slice b c.words q)),.agg (aB h)] w fun r w'=>dU w w' nothing r:=by
 have M:=aA h1;have N:=aA h2;have T:=aA fun W=>jJ W w (.slice none 0 0) (.slice none 0 0)
 generalize nothing=x at *;clear h1 h2 z1 X;have d1:∀ j,(Value.slice none 0 0).ownBlock=some j→w.heap.size+1+1+1+1≤j:=fun j R=>by cases R
 have d2:=d1;go_enter func236,ntmps236;go_wp2_with fail;refine aK w zB fun bb=>?_;refine (lC c a b p q _ (aT M bb) (aT N bb) U V).mono ?_;rintro _ Y ⟨rfl,G⟩;obtain ⟨K,I,zz⟩:=gZ bb G (b:=w);(try simp at I);(try simp [go_sem] at zz);replace bX:=fP zz;clear zz G bb
 rw [hc];go_wp2_with fail;refine aK w zB fun bb=>?_;refine (jN h _).mono ?_;rintro _ Z ⟨rfl,H⟩;obtain ⟨L,J,zz⟩:=gZ bb H (b:=w);(try simp at J);(first|simp [go_sem,bX] at zz|simp [go_sem] at zz|skip);replace bX:=fP zz;clear zz H bb
 rw [O];exact Ur
theorem Tq (h:Ha) (w:World) (n1:(h.nxt == 1)=true):Calls prog 271 #[.agg (aB h)] w fun r w'=>r=.returned (.agg (aB { h with pos:=23 }))∧Below w w w':=by
 go_enter func271,ntmps271
 go_wp2_with fail;refine aK w zB fun I=>?_;refine (fD _ _ _).mono ?_;rintro _ L ⟨rfl,F⟩;obtain ⟨J,G,H⟩:=I9 I F (b:=w);(try simp at G);(try simp [go_sem] at H);replace K:=zX H;clear H F I
 go_wp2;exact bodyPost_ret (jY results271 rfl (aQ { h with pos:=23 } tZ)) rfl ⟨rfl,zB⟩
theorem Tt (h:Ha) (w:World) (n1:(h.nxt == 1)=false) (R:(h.nxt == 2)=true) (N:eD h.code h.elem=true):Calls prog 271 #[.agg (aB h)] w fun r w'=>r=.returned (.agg (aB (anew h)))∧Below w w w':=by
 obtain ⟨I,G⟩:∃ I,anew h=I:=⟨_,rfl⟩;have K:=aA fun W=>A8 h N W
 rw [G] at K;rw [G];clear G N;go_enter func271,ntmps271;go_wp2_with fail;refine aK w zB fun L=>?_;refine (K.out _).mono ?_;rintro _ T ⟨rfl,F⟩;obtain ⟨M,H,J⟩:=I9 L F (b:=w);(try simp at H);(try simp [go_sem] at J);replace O:=zX J;clear J F L
 go_wp2;exact bodyPost_ret (jY results271 rfl (aQ I tZ)) rfl ⟨rfl,zB⟩
theorem Tu (h:Ha) (w:World) (n1:(h.nxt == 1)=false) (L:(h.nxt == 2)=false):Calls prog 271 #[.agg (aB h)] w fun r w'=>r=.returned (.agg (aB (aM 2 h.out)))∧Below w w w':=by
 go_enter func271,ntmps271
 go_wp2_with fail;refine aK w zB fun I=>?_;refine (lv _ _ _).mono ?_;rintro _ M ⟨rfl,F⟩;obtain ⟨J,G,H⟩:=I9 I F (b:=w);(try simp at G);(try simp [go_sem] at H);replace K:=zX H;clear H F I
 go_wp2;exact bodyPost_ret (jY results271 rfl (aQ (aM 2 h.out) tZ)) rfl ⟨rfl,zB⟩
theorem oW (h:Ha) (w:World) (G:eD h.code h.elem=true) (H:0≤h.nxt∧h.nxt≤2):Calls prog 271 #[.agg (aB h)] w fun r w'=>r=.returned (.agg (aB (bF h)))∧Below w w w':=by
 by_cases h1:h.nxt=1
 ·rw [show bF h={ h with pos:=23 } by simp [bF,h1]]
  exact Tq h w (by simpa using h1)
 by_cases h2:h.nxt=2
 ·rw [show bF h=anew h by simp [bF,h2]]
  exact Tt h w (by simpa using h1) (by simpa using h2) G
 ·have F:h.nxt=0:=by omega
  rw [show bF h=aM 2 h.out by simp [bF,F]]
  exact Tu h w (by simpa using h1) (by simpa using h2)
theorem Bb (c:Ch) (h:Ha) (v1 v2:Value) (lo:Nat) (w:World) (h1:aF w lo v1 c.cells) (h2:aI w lo v2 c.words) (X:0≤c.fin∧c.fin≤40) :
  ed 269 c h v1 v2 lo w (({ c with fin:=c.fin+1 },{ h with grow:=c.fin,pos:=17 },true)):=by
 obtain ⟨K,R,L,T,rfl,rfl,U,V,b1,b2⟩:=BJ h1 h2;clear h1 h2;have N:=U.out;have O:=V.out;go_enter func269,ntmps269;go_wp2_with fail
 go_region_held3 (fun w'=>hp w' w=some (.cells (aH { c with fin:=c.fin+1 } (.slice K c.cells R) (.slice L c.words T)) 31)∧hp w' (w+1)=some (.cells (aB { h with grow:=c.fin }) 49))
  (first|(simp [*,go_sem]))
  (first|((go_at_call 247;refine aK w zB fun M=>?_;refine (fD _ _ _).mono ?_;rintro _ w1 ⟨rfl,G⟩;obtain ⟨H,I,J⟩:=gZ M G (b:=w);(try simp at I);(try simp [go_sem] at J);replace bX:=fP J;clear J;have F:=H;clear G M);have Y:=own_below N F;have Z:=own_below O F))
 go_wp2;refine rE results269 rfl (bN { c with fin:=c.fin+1 } (.slice K c.cells R) (.slice L c.words T) tZ) rfl (aQ { h with grow:=c.fin,pos:=17 } tZ) ⟨⟨_,_,rfl,?_,?_,aP _ _,aP _ _⟩,gy zB⟩
 ·exact zO Y N
 ·exact zO Z O
theorem Hd (c:Ch) (h:Ha) (v1 v2:Value) (lo:Nat) (w:World) (h1:aF w lo v1 c.cells) (h2:aI w lo v2 c.words) (hs:(h.seen != 3)=true) :
  ed 270 c h v1 v2 lo w (nothing):=by
 have T:=aA fun W=>jJ W lo v1 v2
 generalize nothing=x at *;obtain ⟨U,q1,V,q2,rfl,rfl,o1,o2,X,Y,m1,m2,a0,a6,a3,a7,a4,a8,a5,a9⟩:=Uu h1 h2;clear h1 h2;go_enter func270,ntmps270;go_wp2_with fail;refine (T.out _).mono ?_;rintro _ w3 ⟨⟨y1,y2,rfl,I,J,L,M⟩,F⟩;have Z:ni (Value.slice U c.cells q1).ownBlock (Value.slice V c.words q2).ownBlock w w3:=kv (gy zB) (gy F);have K:=F.size;(try simp at K);have R:=NS F (b:=w);(try simp [go_sem] at R);replace bX:=fP R;clear R F
 obtain ⟨⟨G,H⟩,N,O⟩:=sO (w:=w) (w+1+1+1+1) L M X Y;obtain ⟨ya,yp,rfl,_⟩:=I.seg;obtain ⟨yb,yq,rfl,_⟩:=J.seg;go_wp2;refine rE results270 rfl (bN x.1 (.slice ya x.1.cells yp) (.slice yb x.1.words yq) tY) rfl (aQ x.2.1 tY) ⟨⟨_,_,rfl,?_,?_,N,O⟩,zN⟩
 ·exact zP I I G
 ·exact zP J J H
def VU (c:Ch) (h:Ha) (f st wt:Int) (y z:Ha):St:=if bB c h.grow f st wt then (bU c h.grow f st wt,y,true) else (c,z,true)
theorem vJ (c:Ch) (h:Ha) (v1 v2:Value) (lo:Nat) (w:World) (h1:aF w lo v1 c.cells) (h2:aI w lo v2 c.words) (aj:0≤h.grow) (ak:h.grow<c.cells.length) (hs:(h.seen != 3)=false) :
  (∀ (ht:bB c h.grow 3 6 (cellAt c h.grow).t=true),Calls prog 270 #[.agg (aH c v1 v2),.agg (aB h)] w fun r w'=>eB w w' lo v1 v2 ((bU c h.grow 3 6 (cellAt c h.grow).t,{ h with pos:=20 },true)) r) ∧
  (∀ (ht:bB c h.grow 3 6 (cellAt c h.grow).t=false),Calls prog 270 #[.agg (aH c v1 v2),.agg (aB h)] w fun r w'=>eB w w' lo v1 v2 ((bU c h.grow 3 6 (cellAt c h.grow).t,{ h with pos:=18 },true)) r):=by
 constructor
 case' left =>
  intro ht;have mA:Hid (0=0):=rfl
 case' right =>
  intro ht;have mB:Hid (0=0):=rfl
 all_goals
  obtain ⟨i,a3⟩:∃ i:Nat,h.grow=(i:Int):=⟨h.grow.toNat,by omega⟩;have hi:i<c.cells.length:=tO;have aq:(0:Int)≤(i:Int):=tO;have ar:(i:Int)<(c.cells.length:Int):=tO;have au:=h1.ne h2;obtain ⟨a2,q2,rfl,_⟩:=h2.seg;obtain ⟨g,T,rfl,an,al,M,ap⟩:=h1.open1 hi;have O1:=aA h1;have O2:=aA h2;have av:g<w.heap.size+1:=tO;have aw:g<w.heap.size+1+1:=tO;have ax:g<w.heap.size+1+1+1:=tO;have b2:g≠w.heap.size:=tO;have b3:g≠w.heap.size+1:=tO
  have b4:g≠w.heap.size+1+1:=tO;have b5:g≠w.heap.size+1+1+1:=tO;have ay:w.heap.size≠g:=tO;have az:w.heap.size+1≠g:=tO;have b0:w.heap.size+1+1≠g:=tO;have b1:w.heap.size+1+1+1≠g:=tO;have hx:Hid (cellAt c h.grow=c.cells.getD i ⟨0,0,0⟩):=by simp [cellAt,Hid,a3]
  have c0:=M 0 tO;have c1:=M 1 tO;have c2:=M 2 tO;simp only [C3.val,Nat.add_zero] at c0 c1 c2;have ex:=hx.out;rw [ex] at ht ⊢;have T0:=fun W a b=>oO c i 3 6 (c.cells.getD i ⟨0,0,0⟩).t (.slice (some ⟨g,0,none⟩) c.cells T) (.slice a2 c.words q2) lo W a b hi
  rw [a3] at ht;rw [show bU c h.grow 3 6 (c.cells.getD i ⟨0,0,0⟩).t=bU c i 3 6 (c.cells.getD i ⟨0,0,0⟩).t by rw [a3]]
  rw [ht] at T0;clear hx ex M h1 h2 ht;generalize c.cells.getD i ⟨0,0,0⟩=x0 at *;obtain ⟨ss,e,t⟩:=x0;simp only at T0 c0 c1 c2 ⊢;have TN:=aA T0;clear T0;have o1:=O1.out;have o2:=O2.out;have aa:=aA a3;clear a3 aj ak;go_enter func270,ntmps270;have ae:some w.heap.size≠some g:=by simp;omega
  have af:some (w.heap.size+1)≠some g:=by simp;omega
  have ag:some (w.heap.size+1+1)≠some g:=by simp;omega
  have ah:some (w.heap.size+1+1+1)≠some g:=by simp;omega
  go_upto_region 3 with fail
  first
  | (replace mA:=mA;refine lh [[],[],[1],[],[3],[],[5],[3,4,5,6],[3,4,5,6,7],[3,4,5,6,7,8],qB [8,9],qB [8,9,10]] [14,15,16,17,18,19,20,21,22,23,24,25] (fun l s L=>(l 10=false→Below w w L)∧(hp L w=some (.cells (aH c (.slice (some ⟨g,0,none⟩) c.cells T) (.slice a2 c.words q2)) 31))∧(hp L (w+1)=some (.cells (aB h) 49))∧(hp L (w+1+1)=some (.cells (aH Ch.zero (.slice none 0 0) (.slice none 0 0)) 31))∧(hp L (w+1+1+1)=some (.cells (aB Ha.zero) 49))∧(l 0=true→s 14=.agg (aH c (.slice (some ⟨g,0,none⟩) c.cells T) (.slice a2 c.words q2)))∧(l 1=true→s 15=.pointer (some ⟨w+1,8,none⟩))∧(l 2=true→s 16=.int .i64 i)∧(l 3=true→s 17=.pointer (some ⟨w,4,none⟩))∧(l 4=true→s 18=.slice (some ⟨g,0,none⟩) c.cells T)∧(l 5=true→s 19=.pointer (some ⟨w+1,8,none⟩))∧(l 6=true→s 20=.int .i64 i)∧(l 7=true→s 21=.pointer (some ⟨g,i*3,none⟩))∧(l 8=true→s 22=.pointer (some ⟨g,i*3+2,none⟩))∧(l 9=true→s 23=.int .i64 t)∧(l 10=true→s 24=.bool true∧Gr g w L∧aF L lo (.slice (some ⟨g,0,none⟩) c.cells T) (bU c i 3 6 t).cells∧aI L lo (.slice a2 c.words q2) c.words)∧(l 11=true→s 25=.bool false)) (fun s=>⟨fun _=>zB,by simp [go_sem],by simp [go_sem],by simp [go_sem],by simp [go_sem],nB,nB,nB,nB,nB,nB,nB,nB,nB,nB,nB,nB⟩) ?_ ?_)
  | (replace mB:=mB;refine lh [[],[],[1],[],[3],[],[5],[3,4,5,6],[3,4,5,6,7],[3,4,5,6,7,8],qB [8,9],qB [8,9,10]] [14,15,16,17,18,19,20,21,22,23,24,25] (fun l s L=>(l 10=false→Below w w L)∧(hp L w=some (.cells (aH c (.slice (some ⟨g,0,none⟩) c.cells T) (.slice a2 c.words q2)) 31))∧(hp L (w+1)=some (.cells (aB h) 49))∧(hp L (w+1+1)=some (.cells (aH Ch.zero (.slice none 0 0) (.slice none 0 0)) 31))∧(hp L (w+1+1+1)=some (.cells (aB Ha.zero) 49))∧(l 0=true→s 14=.agg (aH c (.slice (some ⟨g,0,none⟩) c.cells T) (.slice a2 c.words q2)))∧(l 1=true→s 15=.pointer (some ⟨w+1,8,none⟩))∧(l 2=true→s 16=.int .i64 i)∧(l 3=true→s 17=.pointer (some ⟨w,4,none⟩))∧(l 4=true→s 18=.slice (some ⟨g,0,none⟩) c.cells T)∧(l 5=true→s 19=.pointer (some ⟨w+1,8,none⟩))∧(l 6=true→s 20=.int .i64 i)∧(l 7=true→s 21=.pointer (some ⟨g,i*3,none⟩))∧(l 8=true→s 22=.pointer (some ⟨g,i*3+2,none⟩))∧(l 9=true→s 23=.int .i64 t)∧(l 10=true→s 24=.bool false∧Gr g w L∧aF L lo (.slice (some ⟨g,0,none⟩) c.cells T) (bU c i 3 6 t).cells∧aI L lo (.slice a2 c.words q2) c.words)∧(l 11=true→s 25=.bool true)) (fun s=>⟨fun _=>zB,by simp [go_sem],by simp [go_sem],by simp [go_sem],by simp [go_sem],nB,nB,nB,nB,nB,nB,nB,nB,nB,nB,nB,nB⟩) ?_ ?_)
  refine ⟨?_,?_,?_,?_,?_,?_,?_,?_,?_,?_,?_,?_,trivial⟩;iterate 12 (intro l s L hl hd hn F K Y;rotate_left)
  ·intro l s w5 a1 F
   obtain ⟨_,ao,r1,r2⟩:=((jC (jD F)).2.2.2.1 (a1 10 rfl));have a6:=F.2.1;have R:=F.2.2.1;have I:=F.2.2.2.1;have G:=F.2.2.2.2.1;have ec:=((jE F) (a1 11 rfl));simp only [ec];clear F a1 ec;obtain ⟨ai,ac,a9⟩:=bO a6;obtain ⟨a8,a7,a4⟩:=bO R;obtain ⟨a5,a0,V⟩:=bO I;obtain ⟨Z,X,N⟩:=bO G;go_wp2_with fail
   go_region_held3 (fun w'=>hp w' w=some (.cells (aH c (.slice (some ⟨g,0,none⟩) c.cells T) (.slice a2 c.words q2)) 31)∧hp w' (w+1)=some (.cells (aB h) 49))
    (first|(simp [*,go_sem]))
    (first|(go_at_call 247;refine (fD _ _ _).mono ?_;rintro _ w6 ⟨rfl,H⟩;have am:Gr g w w6:=gT zG (zf H);have ad:=H.size;(try (simp at ad));have O:=hQ H (b:=w);(first|(simp [go_sem,a6,a9] at O)|(simp [go_sem] at O));(try clear ai ac);(try clear a6);have a6:=O;clear O;(try clear a9);obtain ⟨ai,ac,a9⟩:=bO a6;have O:=hQ H (b:=w+1);(first|(simp [go_sem,R,a4] at O)|(simp [go_sem] at O));(try clear a8 a7);(try clear R);have R:=O;clear O;(try clear a4);obtain ⟨a8,a7,a4⟩:=bO R;have O:=hQ H (b:=w+1+1);(first|(simp [go_sem,I,V] at O)|(simp [go_sem] at O));(try clear a5 a0);(try clear I);have I:=O;clear O;(try clear V);obtain ⟨a5,a0,V⟩:=bO I;have O:=hQ H (b:=w+1+1+1);(first|(simp [go_sem,G,N] at O)|(simp [go_sem] at O));(try clear Z X);(try clear G);have G:=O;clear O;(try clear N);obtain ⟨Z,X,N⟩:=bO G;have p1:aF w6 lo (.slice (some ⟨g,0,none⟩) c.cells T) (bU c i 3 6 t).cells:=own_below (zO r1 o1) H;have p2:aI w6 lo (.slice a2 c.words q2) c.words:=own_below (zO r2 o2) H))
   go_wp2
   first
   | (replace mA:=mA;refine rE results270 rfl (bN (bU c i 3 6 t) (.slice (some ⟨g,0,none⟩) c.cells T) (.slice a2 c.words q2) tZ) rfl (aQ { h with pos:=20 } tZ) ⟨⟨_,_,rfl,?_,?_,aP _ _,aP _ _⟩,rA (show w.grownBy _ (some g) from zG)⟩)
   | (replace mB:=mB;refine rE results270 rfl (bN (bU c i 3 6 t) (.slice (some ⟨g,0,none⟩) c.cells T) (.slice a2 c.words q2) tZ) rfl (aQ { h with pos:=18 } tZ) ⟨⟨_,_,rfl,?_,?_,aP _ _,aP _ _⟩,rA (show w.grownBy _ (some g) from zG)⟩)
   ·show aF _ lo (.slice (some ⟨g,0,none⟩) c.cells T) (bU c i 3 6 t).cells
    exact zO p1 o1
   ·show aI _ lo (.slice a2 c.words q2) c.words
    exact zO p2 o2
  ·have U:=F.out.1 (hn 10 rfl)
   have zc:=F.out.2.1;go_simp;refine Y.out (upd s 14 (.agg (aH c (.slice (some ⟨g,0,none⟩) c.cells T) (.slice a2 c.words q2)))) _ _ gM (kC (kA (kX (fun _=>rfl) id)) F.out)
  ·have U:=F.out.1 (hn 10 rfl)
   go_simp;refine Y.out (upd s 15 (.pointer (some ⟨w+1,8,none⟩))) _ _ gM (kC (kB (kX (fun _=>rfl) id)) F.out)
  ·have e1:=((jC F.out).2.2.1 (hd 1 rfl))
   have U:=F.out.1 (hn 10 rfl);have zh:=F.out.2.2.1;have q:L.cell? ⟨w+1,8,none⟩=some (.int .i64 i):=by rw [← aa.out];exact (bO zh).1 8
   go_simp;refine Y.out (upd s 16 (.int .i64 i)) _ _ pQ (kC (kB (kA (kX (fun _=>rfl) id))) F.out)
  ·have U:=F.out.1 (hn 10 rfl)
   go_simp;refine Y.out (upd s 17 (.pointer (some ⟨w,4,none⟩))) _ _ gM (kD (kX (fun _=>rfl) id) F.out)
  ·have e3:=((jD F.out).1 (hd 3 rfl))
   have U:=F.out.1 (hn 10 rfl);have zc:=F.out.2.1;have q:=(bO zc).1 4;go_simp;refine Y.out (upd s 18 (.slice (some ⟨g,0,none⟩) c.cells T)) _ _ yh (kD (kA (kX (fun _=>rfl) id)) F.out)
  ·have U:=F.out.1 (hn 10 rfl)
   go_simp;refine Y.out (upd s 19 (.pointer (some ⟨w+1,8,none⟩))) _ _ gM (kD (kB (kX (fun _=>rfl) id)) F.out)
  ·have e5:=((jD F.out).2.2.1 (hd 5 rfl))
   have U:=F.out.1 (hn 10 rfl);have zh:=F.out.2.2.1;have q:L.cell? ⟨w+1,8,none⟩=some (.int .i64 i):=by rw [← aa.out];exact (bO zh).1 8
   go_simp;refine Y.out (upd s 20 (.int .i64 i)) _ _ mK (kD (kB (kA (kX (fun _=>rfl) id))) F.out)
  ·have e4:=((jD F.out).2.1 (hd 4 rfl))
   have e6:=((jD F.out).2.2.2.1 (hd 6 rfl));have U:=F.out.1 (hn 10 rfl);go_simp;refine Y.out (upd s 21 (.pointer (some ⟨g,i*3,none⟩))) _ _ (by simp [aX,e4,e6] <;> rfl) (kD (kC (kX (fun _=>rfl) id)) F.out)
  ·have e7:=((jC (jD F.out)).1 (hd 7 rfl))
   have U:=F.out.1 (hn 10 rfl);go_simp;refine Y.out (upd s 22 (.pointer (some ⟨g,i*3+2,none⟩))) _ _ wQ (kD (kC (kA (kX (fun _=>rfl) id))) F.out)
  ·have e8:=((jC (jD F.out)).2.1 (hd 8 rfl))
   have U:=F.out.1 (hn 10 rfl);have y0:=(U.cell (p:=⟨g,i*3+2,none⟩) al).trans c2;go_simp;refine Y.out (upd s 23 (.int .i64 t)) _ _ wP (kD (kC (kB (kX (fun _=>rfl) id))) F.out)
  ·have e0:=((jC F.out).2.1 (hd 0 rfl))
   have e2:=((jC F.out).2.2.2.1 (hd 2 rfl));have e9:=((jC (jD F.out)).2.2.1 (hd 9 rfl));have U:=F.out.1 hl;go_simp
   go_at_call 254
   refine (TN.out _ (own_below o1 U) (own_below o2 U)).mono ?_;rintro _ wy ⟨rfl,p1,p2,J⟩
   first
   | (replace mA:=mA;refine Y.out (upd s 24 (.bool true)) _ _ (by simp [aX,e0,e2,e9] <;> rfl) (kX (fun h9=>nU h9 (show upd l 10 true 10=true from rfl)) (kX ((bM J (bO F.out.2.1).2.2 ae).trans F.out.2.1) (kX ((bM J (bO F.out.2.2.1).2.2 af).trans F.out.2.2.1) (kX ((bM J (bO F.out.2.2.2.1).2.2 ag).trans F.out.2.2.2.1) (kX ((bM J (bO F.out.2.2.2.2.1).2.2 ah).trans F.out.2.2.2.2.1) (kD (kB (kX (fun _=>⟨rfl,gT (zf U) J,p1,p2⟩) (fun _=>nU (hn 11 rfl))))))))) F.out))
   | (replace mB:=mB;refine Y.out (upd s 24 (.bool false)) _ _ (by simp [aX,e0,e2,e9] <;> rfl) (kX (fun h9=>nU h9 (show upd l 10 true 10=true from rfl)) (kX ((bM J (bO F.out.2.1).2.2 ae).trans F.out.2.1) (kX ((bM J (bO F.out.2.2.1).2.2 af).trans F.out.2.2.1) (kX ((bM J (bO F.out.2.2.2.1).2.2 ag).trans F.out.2.2.2.1) (kX ((bM J (bO F.out.2.2.2.2.1).2.2 ah).trans F.out.2.2.2.2.1) (kD (kB (kX (fun _=>⟨rfl,gT (zf U) J,p1,p2⟩) (fun _=>nU (hn 11 rfl))))))))) F.out))
  ·have ab:=((jC (jD F.out)).2.2.2.1 (hd 10 rfl)).1
   go_simp
   first
   | (replace mA:=mA;refine Y.out (upd s 25 (.bool false)) _ _ (by simp [aX,ab] <;> rfl) (kE (fun _=>fun _=>rfl) F.out))
   | (replace mB:=mB;refine Y.out (upd s 25 (.bool true)) _ _ (by simp [aX,ab] <;> rfl) (kE (fun _=>fun _=>rfl) F.out))
theorem Ef (c:Ch) (h:Ha) (v1 v2:Value) (lo:Nat) (w:World) (h1:aF w lo v1 c.cells) (h2:aI w lo v2 c.words) (F:0≤h.grow) (G:h.grow<c.cells.length) (hs:(h.seen != 3)=false) (ht:bB c h.grow 3 6 (cellAt c h.grow).t=true) :
  Calls prog 270 #[.agg (aH c v1 v2),.agg (aB h)] w fun r w'=>eB w w' lo v1 v2 ((bU c h.grow 3 6 (cellAt c h.grow).t,{ h with pos:=20 },true)) r:=(vJ c h v1 v2 lo w h1 h2 F G hs).1 ht
theorem Eg (c:Ch) (h:Ha) (v1 v2:Value) (lo:Nat) (w:World) (h1:aF w lo v1 c.cells) (h2:aI w lo v2 c.words) (F:0≤h.grow) (G:h.grow<c.cells.length) (hs:(h.seen != 3)=false) (ht:bB c h.grow 3 6 (cellAt c h.grow).t=false) :
  Calls prog 270 #[.agg (aH c v1 v2),.agg (aB h)] w fun r w'=>eB w w' lo v1 v2 ((bU c h.grow 3 6 (cellAt c h.grow).t,{ h with pos:=18 },true)) r:=(vJ c h v1 v2 lo w h1 h2 F G hs).2 ht
def qU (c:Ch) (h:Ha):St:=if h.seen=3 then VU c h 3 6 (cellAt c h.grow).t { h with pos:=20 } { h with pos:=18 } else nothing
theorem Eh (c:Ch) (h:Ha) (v1 v2:Value) (lo:Nat) (w:World) (h1:aF w lo v1 c.cells) (h2:aI w lo v2 c.words) (F:0≤h.grow) (G:h.grow<c.cells.length) :
  ed 270 c h v1 v2 lo w (qU c h):=by
 by_cases hs:h.seen=3
 ·have e:(h.seen != 3)=false:=by simp [hs]
  cases ht:bB c h.grow 3 6 (cellAt c h.grow).t with
  | true =>
   rw [show qU c h=(bU c h.grow 3 6 (cellAt c h.grow).t,{ h with pos:=20 },true) by simp [qU,VU,hs,ht]]
   exact Ef c h v1 v2 lo w h1 h2 F G e ht
  | false =>
   have:=Eg c h v1 v2 lo w h1 h2 F G e ht;rw [om ht] at this;rw [show qU c h=(c,{ h with pos:=18 },true) by simp [qU,VU,hs,ht]]
   exact this
 ·rw [show qU c h=nothing by simp [qU,hs]]
  exact Hd c h v1 v2 lo w h1 h2 (by simpa using hs)
end
end Go.Proofs.YtffhjmepfojhnaaGreat
