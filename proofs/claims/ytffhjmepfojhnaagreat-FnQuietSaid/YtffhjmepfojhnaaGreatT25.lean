/-
  Steps of growing of the reference model, on hands and channels that are kept whole; lists lie in memory and hold at most 2 ^ 40 elements.
-/
import Derived.Test.YtffhjmepfojhnaaGreatT18
import Derived.Test.YtffhjmepfojhnaaGreatT15
set_option maxRecDepth 100000
set_option maxHeartbeats 4000000
set_option linter.unusedSimpArgs false
set_option linter.unusedVariables false
namespace Go.Proofs.YtffhjmepfojhnaaGreat
open _root_.Go.Proofs.Tryz
section
open Go.RowKit
attribute [local simp] dz
attribute [local go_sem ↓] dA fU dO gW dP gY dW fE bK eO
theorem Qp (c:Ch) (h:Ha) (a b:Option Addr) (p q:Nat) (w:World) (h1:gG w w a c.cells) (h2:gI w w b c.words) (O:bC c h 16 22 2=false) :
  Calls prog 191 #[.agg (aH c (.slice a c.cells p) (.slice b c.words q)),.agg (aB h)] w fun r w'=>dU w w' (aW c h) r:=by
 have e:aW c h=nothing:=by simp [aW,O]
 rw [e];have R:=aA h1;have U:=aA h2;have T:=aA fun W=>jL W w (.slice none 0 0) (.slice none 0 0)
 generalize nothing=x at *;clear h1 h2 e;have d1:∀ j,(Value.slice none 0 0).ownBlock=some j→w.heap.size+1+1+1+1≤j:=fun j V=>by cases V
 have d2:=d1;go_enter func191,ntmps191;go_wp2_with fail;refine aK w zB fun I=>?_;refine (eQ c h 16 22 2 a b p q _ (aT R I) (aT U I)).mono ?_;rintro _ X ⟨rfl,F⟩;obtain ⟨M,J,H⟩:=gZ I F (b:=w);(try simp at J);(try simp [go_sem] at H);replace L:=fP H;clear H F I
 rw [O];go_wp2_with fail;refine aK w zB fun I=>?_;refine (T.out _).mono ?_;rintro _ Y ⟨⟨Z,y2,rfl,jF,jG,nQ,ny⟩,G⟩;obtain ⟨N,K,H⟩:=gZ I G (b:=w);(try simp at K);(first|simp [go_sem,L] at H|simp [go_sem] at H|skip);replace L:=fP H;clear H G I
 exact Oa
theorem MU (c:Ch) (h:Ha) (a b:Option Addr) (p q:Nat) (w:World) (h1:gG w w a c.cells) (z1:a=none→p=0) (h2:gI w w b c.words) (z2:b=none→q=0) (hk:bC c h 16 22 2=true) (a6:h.pos=17) (hs:c.sent≤h.grow) :
  Calls prog 191 #[.agg (aH c (.slice a c.cells p) (.slice b c.words q)),.agg (aB h)] w fun r w'=>dU w w' (aW c h) r:=by
 obtain ⟨k1,k2,_,_⟩:=cO hk;obtain ⟨n1,n2⟩:=fT k1;have m1:c.cells.length≤1099511627776:=tO;have m2:c.words.length≤1099511627776:=tO;have H1:=aA h1;have H2:=aA h2;have Z1:=aA z1;have Z2:=aA z2;have e:aW c h=done c (bF h):=by simp [aW,hk,a6,hs]
 rw [e];have D:=aA fun v1 v2 W=>bV (c) (bF h) v1 v2 w W
 generalize done c (bF h)=x at *;clear h1 h2 z1 z2 e k1 k2 n1 n2;go_enter func191,ntmps191;go_wp2_with fail;refine aK w zB fun H=>?_;refine (eQ c h 16 22 2 a b p q _ (aT H1 H) (aT H2 H)).mono ?_;rintro _ w1 ⟨rfl,J⟩;obtain ⟨a7,U,G⟩:=gZ H J (b:=w);(try simp at U);(try simp [go_sem] at G);replace T:=fP G;clear G J H
 rw [hk];go_wp2_with fail;refine aK w zB fun H=>?_;refine (eT c a b p q _ (aT H1 H) Z1.out (aT H2 H) Z2.out m1 m2).mono ?_;rintro _ w2 ⟨⟨v1,v2,rfl,Z,o2⟩,K⟩;obtain ⟨a8,V,G⟩:=gZ H K (b:=w);(try simp at V);(first|simp [go_sem,T] at G|simp [go_sem] at G|skip);replace T:=fP G;clear G K H
 have d1:=mD Z (w+1+1+1+1);have d2:=mD o2 (w+1+1+1+1);have p1:=aL (lo':=w) Z tO;have p2:=aL (lo':=w) o2 tO;obtain ⟨a1,q1,rfl,_⟩:=Z.seg;obtain ⟨a2,q2,rfl,_⟩:=o2.seg;go_wp2_with fail
 go_region_with (first|((go_at_call 209;refine aK w zB fun H=>?_;refine aK w2 zB fun bk=>?_;refine (l8 _ _).mono ?_;rintro _ w5 ⟨rfl,F⟩;have aa:=bT H F;have Y:=F.size;(try simp at Y);have G:=And.intro (hQ F (b:=w2)) <| And.intro (hQ F (b:=w+1+1+1)) <| And.intro (hQ F (b:=w+1+1)) <| And.intro (hQ F (b:=w+1)) <| hQ F (b:=w);(first|simp [go_sem,T] at G|simp [go_sem] at G|skip);replace T:=ng G;clear G;have I:=bT bk F;clear F H bk);have r1:=own_below p1 I;have r2:=own_below p2 I)|((go_at_call 198;refine aK w zB fun H=>?_;refine (D.out _ _ _ (zO r1 Z) (zO r2 o2)).mono ?_;rintro _ w3 ⟨⟨y1,y2,rfl,O,R,a0,a3⟩,L⟩;obtain ⟨a9,X,G⟩:=gZ H L (b:=w);(try simp at X);(first|simp [go_sem,T] at G|simp [go_sem] at G|skip);replace T:=fP G;clear G L H);obtain ⟨⟨M,N⟩,a4,a5⟩:=BI (w:=w) (w+1+1+1+1) a0 a3 d1 d2;obtain ⟨ya,yp,rfl,_⟩:=O.seg;obtain ⟨yb,yq,rfl,_⟩:=R.seg))
 all_goals go_wp2
 all_goals (refine rE results191 rfl (bN x.1 (.slice ya x.1.cells yp) (.slice yb x.1.words yq) tY) rfl (aQ x.2.1 tY) ⟨⟨_,_,rfl,?_,?_,a4,a5⟩,zB⟩)
 all_goals (first|exact zP O O M|skip)
 all_goals (first|exact zP R R N|skip)
theorem MV (c:Ch) (h:Ha) (a b:Option Addr) (p q:Nat) (w:World) (h1:gG w w a c.cells) (z1:a=none→p=0) (h2:gI w w b c.words) (z2:b=none→q=0) (T:bC c h 16 22 2=true) (U:h.pos=17) (hs:¬ c.sent≤h.grow) :
  Calls prog 191 #[.agg (aH c (.slice a c.cells p) (.slice b c.words q)),.agg (aB h)] w fun r w'=>dU w w' (aW c h) r:=by
 obtain ⟨k1,k2,_,_⟩:=cO T;obtain ⟨n1,n2⟩:=fT k1;have m1:c.cells.length≤1099511627776:=tO;have m2:c.words.length≤1099511627776:=tO;have V:=aA h1;have X:=aA h2;have Z1:=aA z1;have Z2:=aA z2;have e:aW c h=done (c) ({ h with pos:=18 }):=by simp [aW,T,U,hs]
 rw [e];have D:=aA fun v1 v2 W=>bV (c) ({ h with pos:=18 }) v1 v2 w W
 generalize done (c) ({ h with pos:=18 })=x at *;clear h1 h2 z1 z2 e k1 k2 n1 n2;go_enter func191,ntmps191;go_wp2_with fail;refine aK w zB fun G=>?_;refine (eQ c h 16 22 2 a b p q _ (aT V G) (aT X G)).mono ?_;rintro _ w1 ⟨rfl,H⟩;obtain ⟨Y,K,F⟩:=gZ G H (b:=w);(try simp at K);(try simp [go_sem] at F);replace N:=fP F;clear F H G
 rw [T];go_wp2_with fail;refine aK w zB fun G=>?_;refine (eT c a b p q _ (aT V G) Z1.out (aT X G) Z2.out m1 m2).mono ?_;rintro _ w2 ⟨⟨v1,v2,rfl,O,R⟩,I⟩;obtain ⟨Z,L,F⟩:=gZ G I (b:=w);(try simp at L);(first|simp [go_sem,N] at F|simp [go_sem] at F|skip);replace N:=fP F;clear F I G
 have d1:=mD O (w+1+1+1+1);have d2:=mD R (w+1+1+1+1);have p1:=aL (lo':=w) O tO;have p2:=aL (lo':=w) R tO;obtain ⟨a1,q1,rfl,_⟩:=O.seg;obtain ⟨a2,q2,rfl,_⟩:=R.seg;go_wp2_with fail;refine aK w zB fun G=>?_;refine (D.out _ _ _ (zO p1 O) (zO p2 R)).mono ?_;rintro _ w3 ⟨⟨y1,y2,rfl,jF,jG,nQ,ny⟩,J⟩;obtain ⟨a0,M,F⟩:=gZ G J (b:=w);(try simp at M);(first|simp [go_sem,N] at F|simp [go_sem] at F|skip);replace N:=fP F;clear F J G
 exact Oa
theorem AX (c:Ch) (h:Ha) (a b:Option Addr) (p q:Nat) (w:World) (h1:gG w w a c.cells) (z1:a=none→p=0) (h2:gI w w b c.words) (z2:b=none→q=0) (hk:bC c h 16 22 2=true) (R:h.pos=20) :
  (∀ (ht:eG c h.wait 1=true),Calls prog 191 #[.agg (aH c (.slice a c.cells p) (.slice b c.words q)),.agg (aB h)] w fun r w'=>dU w w' (aW c h) r) ∧
  (∀ (ht:eG c h.wait 1=false),Calls prog 191 #[.agg (aH c (.slice a c.cells p) (.slice b c.words q)),.agg (aB h)] w fun r w'=>dU w w' (aW c h) r):=by
 constructor
 case' left =>
  intro ht;have N:Hid (0=0):=rfl
 case' right =>
  intro ht;have O:Hid (0=0):=rfl
 all_goals
  obtain ⟨Y,k2,_,_⟩:=cO hk;obtain ⟨n1,n2⟩:=fT Y;have m1:c.cells.length≤1099511627776:=tO;have m2:c.words.length≤1099511627776:=tO;have H1:=aA h1;have H2:=aA h2;have Z1:=aA z1;have Z2:=aA z2
  first
  | (replace N:=N;have e:aW c h=done (cZ c h.wait 1) ({ h with pos:=21 }):=by simp [aW,hk,R,uf,ht])
  | (replace O:=O;have e:aW c h=done (cZ c h.wait 1) ({ h with pos:=22 }):=by simp [aW,hk,R,uf,ht])
  rw [e];have K:=fun a b p q W x1 x2 x3 x4=>uU c h.wait 1 a b p q W x1 x2 x3 x4 m1 m2
  first
  | (replace N:=N;have D:=fun v1 v2 W=>bV (cZ c h.wait 1) ({ h with pos:=21 }) v1 v2 w W)
  | (replace O:=O;have D:=fun v1 v2 W=>bV (cZ c h.wait 1) ({ h with pos:=22 }) v1 v2 w W)
  simp only [xR,wB] at D;rw [ht] at K
  first
  | (replace N:=N;generalize done (cZ c h.wait 1) ({ h with pos:=21 })=x at *)
  | (replace O:=O;generalize done (cZ c h.wait 1) ({ h with pos:=22 })=x at *)
  generalize (cZ c h.wait 1).words=tw at *;replace K:=aA K;replace D:=aA D;clear ht;clear h1 h2 z1 z2 e Y k2 n1 n2;go_enter func191,ntmps191;go_wp2_with fail;refine aK w zB fun H=>?_;refine (eQ c h 16 22 2 a b p q _ (aT H1 H) (aT H2 H)).mono ?_;rintro _ w1 ⟨rfl,I⟩;obtain ⟨a0,T,G⟩:=gZ H I (b:=w);(try simp at T);(try simp [go_sem] at G);replace M:=fP G;clear G I H
  rw [hk];go_wp2_with fail;refine aK w zB fun H=>?_;refine (eT c a b p q _ (aT H1 H) Z1.out (aT H2 H) Z2.out m1 m2).mono ?_;rintro _ Z ⟨⟨v1,v2,rfl,o1,o2⟩,J⟩;obtain ⟨a3,U,G⟩:=gZ H J (b:=w);(try simp at U);(first|simp [go_sem,M] at G|simp [go_sem] at G|skip);replace M:=fP G;clear G J H
  have d1:=mD o1 (w+1+1+1+1);have d2:=mD o2 (w+1+1+1+1);have p1:=aL (lo':=w) o1 tO;have p2:=aL (lo':=w) o2 tO;obtain ⟨a1,q1,rfl,_⟩:=o1.seg;obtain ⟨a2,q2,rfl,_⟩:=o2.seg;obtain ⟨k0,Y,k2,k3⟩:=pz (a:=w) (b:=Z);go_wp2_with fail;refine aK w zB fun H=>?_;refine aK Z zB fun bk=>?_;refine (K.out _ _ _ _ _ (aT H1 H) Z1.out (aT H2 H) Z2.out).mono ?_;rintro _ w4 ⟨⟨u1,u2,rfl,u3,u4⟩,F⟩;have a5:=bT H F;have X:=F.size;(try simp at X);have G:=And.intro (hQ F (b:=Z)) <| And.intro (hQ F (b:=w+1+1+1)) <| And.intro (hQ F (b:=w+1+1)) <| And.intro (hQ F (b:=w+1)) <| hQ F (b:=w);(first|simp [go_sem,M,k0,Y,k2,k3] at G|simp [go_sem] at G|skip);replace M:=ng G;clear G;have a6:=bT bk F;clear F H bk
  try simp at u3 u4
  have d3:=mD u3 (w+1+1+1+1);have d4:=mD u4 (w+1+1+1+1);clear d1 d2;have d1:=d3;have d2:=d4;clear d3 d4;have s1:=aL (lo':=w) u3 tO;have s2:=aL (lo':=w) u4 tO;have b3:=fun j (hj:u1.ownBlock=some j)=>(u3.lt j hj).1
  have b4:=fun j (hj:u2.ownBlock=some j)=>(u4.lt j hj).1
  have g3:u1.ownBlock≠some Z.heap.size:=fun e=>by have:=b3 _ e;omega
  have g4:u2.ownBlock≠some Z.heap.size:=fun e=>by have:=b4 _ e;omega
  obtain ⟨ua,up,rfl,_⟩:=u3.seg;obtain ⟨ub,uq,rfl,_⟩:=u4.seg;go_wp2_with fail;refine aK w zB fun H=>?_;refine (D.out _ _ _ TW TV).mono ?_;rintro _ w3 ⟨⟨y1,y2,rfl,jF,jG,nQ,ny⟩,L⟩;obtain ⟨a4,V,G⟩:=gZ H L (b:=w);(try simp at V);(first|simp [go_sem,M,k0,Y,k2,k3] at G|simp [go_sem] at G|skip);replace M:=fP G;clear G L H
  exact Oa
theorem MX (c:Ch) (h:Ha) (a b:Option Addr) (p q:Nat) (w:World) (h1:gG w w a c.cells) (z1:a=none→p=0) (h2:gI w w b c.words) (H:b=none→q=0) (G:bC c h 16 22 2=true) (F:h.pos=20) (ht:eG c h.wait 1=true) :
  Calls prog 191 #[.agg (aH c (.slice a c.cells p) (.slice b c.words q)),.agg (aB h)] w fun r w'=>dU w w' (aW c h) r:=(AX c h a b p q w h1 z1 h2 H G F).1 ht
theorem MZ (c:Ch) (h:Ha) (a b:Option Addr) (p q:Nat) (w:World) (h1:gG w w a c.cells) (z1:a=none→p=0) (h2:gI w w b c.words) (H:b=none→q=0) (G:bC c h 16 22 2=true) (F:h.pos=20) (ht:eG c h.wait 1=false) :
  Calls prog 191 #[.agg (aH c (.slice a c.cells p) (.slice b c.words q)),.agg (aB h)] w fun r w'=>dU w w' (aW c h) r:=(AX c h a b p q w h1 z1 h2 H G F).2 ht
theorem Tp (c:Ch) (h:Ha) (a b:Option Addr) (p q:Nat) (w:World) (h1:gG w w a c.cells) (z1:a=none→p=0) (h2:gI w w b c.words) (z2:b=none→q=0) (X:bC c h 1 8 1=true) (Y:h.pos=6) :
  Calls prog 189 #[.agg (aH c (.slice a c.cells p) (.slice b c.words q)),.agg (aB h)] w fun r w'=>dU w w' (bE c h) r:=by
 have e:bE c h=jS c h:=by simp [bE,X,Y]
 rw [e];obtain ⟨k1,k2,_,_⟩:=cO X;obtain ⟨n1,n2⟩:=fT k1;have J:c.cells.length≤1099511627776:=tO;have K:c.words.length≤1099511627776:=tO;have Z:=aA h1;have H2:=aA h2;have Z1:=aA z1;have Z2:=aA z2;obtain ⟨c1,c2⟩:=iW k2;have D:=aA fun v1 v2 W x1 x2 x3=>MG c h v1 v2 w W x1 x2 x3 c1 tO
 generalize jS c h=x at *;clear h1 h2 z1 z2 e k1 k2 n1 n2;go_enter func189,ntmps189;go_wp2_with fail;refine aK w zB fun G=>?_;refine (eQ c h 1 8 1 a b p q _ (aT Z G) (aT H2 G)).mono ?_;rintro _ w1 ⟨rfl,H⟩;obtain ⟨a0,M,F⟩:=gZ G H (b:=w);(try simp at M);(try simp [go_sem] at F);replace R:=fP F;clear F H G
 rw [X];go_wp2_with fail;refine aK w zB fun G=>?_;refine (eT c a b p q _ (aT Z G) Z1.out (aT H2 G) Z2.out J K).mono ?_;rintro _ w2 ⟨⟨v1,v2,rfl,U,V⟩,I⟩;obtain ⟨a3,N,F⟩:=gZ G I (b:=w);(try simp at N);(first|simp [go_sem,R] at F|simp [go_sem] at F|skip);replace R:=fP F;clear F I G
 have d1:=mD U (w+1+1+1+1);have d2:=mD V (w+1+1+1+1);have p1:=aL (lo':=w) U tO;have p2:=aL (lo':=w) V tO;obtain ⟨a1,q1,rfl,_⟩:=U.seg;obtain ⟨a2,q2,rfl,_⟩:=V.seg;have J:∀ j,j<w.heap.size+1+1+1+1→some j≠(Value.slice a1 c.cells q1).ownBlock:=fun j L e=>by have:=d1 _ e.symm;omega
 have K:∀ j,j<w.heap.size+1+1+1+1→some j≠(Value.slice a2 c.words q2).ownBlock:=fun j L e=>by have:=d2 _ e.symm;omega
 have a5:=J w tO;have a6:=J (w+1) tO;have a7:=J (w+1+1) tO;have a8:=J (w+1+1+1) tO;have a9:=K w tO;have aa:=K (w+1) tO;have ab:=K (w+1+1) tO;have ac:=K (w+1+1+1) tO;go_wp2_with fail;refine (D.out _ _ _ (zO p1 U) (zO p2 V) dQ).mono ?_;rintro _ w3 ⟨⟨y1,y2,rfl,jF,jG,nQ,ny⟩,T⟩;have a4:Below w w w3:=Lt zB T (fun j L=>by have:=d1 j L;omega) (fun j L=>by have:=d2 j L;omega);have O:=T.2.2.2.1;(try (simp at O));have F:=QU T (b:=w);(first|simp [go_sem,R] at F|simp [go_sem] at F|skip);replace R:=fP F;clear F
 clear T;exact Lm
theorem AY (c:Ch) (h:Ha) (v1 v2:Value) (lo:Nat) (w:World) (h1:aF w lo v1 c.cells) (h2:aI w lo v2 c.words) (a4:0≤h.grow) (a5:h.grow<c.cells.length) (hs:(h.seen == 3)=true) (K:(h.seen == 0)=false) :
    (∀ (ht:bB c h.grow h.seen 6 h.wait=true),Calls prog 211 #[.agg (aH c v1 v2),.agg (aB h)] w fun r w'=>eB w w' lo v1 v2 (iw c h) r) ∧
    (∀ (ht:bB c h.grow h.seen 6 h.wait=false),Calls prog 211 #[.agg (aH c v1 v2),.agg (aB h)] w fun r w'=>eB w w' lo v1 v2 (iw c h) r):=by
  constructor
  case' left =>
    intro ht;have mA:Hid (0=0):=rfl
  case' right =>
    intro ht;have mB:Hid (0=0):=rfl
  all_goals
    obtain ⟨i,J⟩:∃ i:Nat,h.grow=(i:Int):=⟨h.grow.toNat,by omega⟩;have hi:i<c.cells.length:=tO
    first
    | (replace mA:=mA
       have H:bB c i h.seen 6 h.wait=true:=by rw [← ht,J]
       have e:iw c h=done (bU c i h.seen 6 h.wait) ({ h with pos:=20,grow:=(i:Int) }):=by simp at hs K;simp [iw,kF,hs,K,J] at H ⊢;simp [H])
    | (replace mB:=mB
       have H:bB c i h.seen 6 h.wait=false:=by rw [← ht,J]
       have e:iw c h=done (bU c i h.seen 6 h.wait) ({ h with pos:=18,grow:=(i:Int) }):=by simp at hs K;simp [iw,kF,hs,K,J] at H ⊢;simp [H])
    rw [e];have T:=aA fun W a b=>lM c i h.seen 6 h.wait v1 v2 lo W a b hi
    first
    | (replace mA:=mA
       have D:=aA fun W=>bV (bU c i h.seen 6 h.wait) ({ h with pos:=20,grow:=(i:Int) }) v1 v2 lo W
       generalize done (bU c i h.seen 6 h.wait) ({ h with pos:=20,grow:=(i:Int) })=x at *)
    | (replace mB:=mB
       have D:=aA fun W=>bV (bU c i h.seen 6 h.wait) ({ h with pos:=18,grow:=(i:Int) }) v1 v2 lo W
       generalize done (bU c i h.seen 6 h.wait) ({ h with pos:=18,grow:=(i:Int) })=x at *)
    rw [H] at T;have b1:=nC h1;have b2:=nC h2;have X:=sH b1;have Y:=sH b2;have a6:=X (w.heap.size) tO;have ab:=Y (w.heap.size) tO;have a7:=X (w+1) tO;have ac:=Y (w+1) tO;have a8:=X (w+1+1) tO;have ad:=Y (w+1+1) tO;have a9:=X (w+1+1+1) tO;have ae:=Y (w+1+1+1) tO;have o1:=h1;have o2:=h2;obtain ⟨a1,q1,e1,_⟩:=h1.seg;obtain ⟨a2,q2,e2,_⟩:=h2.seg;subst e1 e2;clear h1 h2 e ht;go_enter func211,ntmps211;go_wp2_with fail;refine aK w zB fun bb=>?_;refine (l8 _ _).mono ?_;rintro _ M ⟨rfl,G⟩;have L:Below w w M:=bT bb G;have V:=G.size;(try simp at V);have zz:=q4 G (b:=w);(try simp [go_sem] at zz);(try clear eH iH iI gm);(try clear fV jW jX iE);(try clear tH D5 D6 ze);(try clear kW sU sV oz);obtain ⟨eH,fV,tH,kW⟩:=zz;obtain ⟨iH,iI,gm⟩:=bO eH;obtain ⟨jW,jX,iE⟩:=bO fV;obtain ⟨D5,D6,ze⟩:=bO tH;obtain ⟨sU,sV,oz⟩:=bO kW;clear G bb
    have o3:=own_below o1 L;have o4:=own_below o2 L;have aa:=X M tO;have af:=Y M tO;have I:M<M.heap.size+1:=tO;obtain ⟨k0,k1,k2,k3⟩:=pz (a:=w) (b:=M);go_wp2_with fail;refine (T.out _ (zO o3 o1) (zO o4 o2)).mono ?_;rintro _ Z ⟨rfl,p1,p2,F⟩;have U:=F.size;(try (simp at U));have zz:=And.intro (bM F (b:=M) tS dM) <| And.intro (bM F (b:=w+1+1+1) tS dM) <| And.intro (bM F (b:=w+1+1) tS dM) <| And.intro (bM F (b:=w+1) tS dM) <| bM F (b:=w) tS dM;(first|simp [go_sem,eH,fV,tH,kW,oz,I,ze,iE,gm,k0,k1,k2,k3] at zz|simp [go_sem] at zz|skip);(try clear N a0 O I);(try clear eH iH iI gm);(try clear fV jW jX iE);(try clear tH D5 D6 ze);(try clear kW sU sV oz);obtain ⟨N,eH,fV,tH,kW⟩:=zz;obtain ⟨a0,O,I⟩:=bO N;obtain ⟨iH,iI,gm⟩:=bO eH;obtain ⟨jW,jX,iE⟩:=bO fV;obtain ⟨D5,D6,ze⟩:=bO tH;obtain ⟨sU,sV,oz⟩:=bO kW;have R:=NT (w:=w) zB F;clear F
    have a3:ni (Value.slice a1 c.cells q1).ownBlock (Value.slice a2 c.words q2).ownBlock w Z:=rA R;clear k0 k1 k2 k3;obtain ⟨k0,k1,k2,k3⟩:=pz (a:=w) (b:=Z);have k4:M<Z.heap.size:=tO;have r1:aF Z lo (.slice a1 c.cells q1) (bU c i h.seen 6 h.wait).cells:=p1;have r2:aI Z lo (.slice a2 c.words q2) (bU c i h.seen 6 h.wait).words:=p2;exact Uk
theorem Na (c:Ch) (h:Ha) (v1 v2:Value) (lo:Nat) (w:World) (h1:aF w lo v1 c.cells) (h2:aI w lo v2 c.words) (F:0≤h.grow) (G:h.grow<c.cells.length) (hs:(h.seen == 3)=true) (H:(h.seen == 0)=false) (ht:bB c h.grow h.seen 6 h.wait=true) :
    Calls prog 211 #[.agg (aH c v1 v2),.agg (aB h)] w fun r w'=>eB w w' lo v1 v2 (iw c h) r:=(AY c h v1 v2 lo w h1 h2 F G hs H).1 ht
theorem Nb (c:Ch) (h:Ha) (v1 v2:Value) (lo:Nat) (w:World) (h1:aF w lo v1 c.cells) (h2:aI w lo v2 c.words) (F:0≤h.grow) (G:h.grow<c.cells.length) (hs:(h.seen == 3)=true) (H:(h.seen == 0)=false) (ht:bB c h.grow h.seen 6 h.wait=false) :
    Calls prog 211 #[.agg (aH c v1 v2),.agg (aB h)] w fun r w'=>eB w w' lo v1 v2 (iw c h) r:=(AY c h v1 v2 lo w h1 h2 F G hs H).2 ht
theorem AZ (c:Ch) (h:Ha) (v1 v2:Value) (lo:Nat) (w:World) (h1:aF w lo v1 c.cells) (h2:aI w lo v2 c.words) (a4:0≤h.grow) (a5:h.grow<c.cells.length) (hs:(h.seen == 3)=false) (K:(h.seen == 0)=true) :
    (∀ (ht:bB c h.grow h.seen 1 0=true),Calls prog 211 #[.agg (aH c v1 v2),.agg (aB h)] w fun r w'=>eB w w' lo v1 v2 (iw c h) r) ∧
    (∀ (ht:bB c h.grow h.seen 1 0=false),Calls prog 211 #[.agg (aH c v1 v2),.agg (aB h)] w fun r w'=>eB w w' lo v1 v2 (iw c h) r):=by
  constructor
  case' left =>
    intro ht;have mA:Hid (0=0):=rfl
  case' right =>
    intro ht;have mB:Hid (0=0):=rfl
  all_goals
    obtain ⟨i,J⟩:∃ i:Nat,h.grow=(i:Int):=⟨h.grow.toNat,by omega⟩;have hi:i<c.cells.length:=tO
    first
    | (replace mA:=mA
       have H:bB c i h.seen 1 0=true:=by rw [← ht,J]
       have e:iw c h=done (bU c i h.seen 1 0) (bF h):=by simp at hs K;simp [iw,kF,hs,K,J] at H ⊢;simp [H])
    | (replace mB:=mB
       have H:bB c i h.seen 1 0=false:=by rw [← ht,J]
       have e:iw c h=done (bU c i h.seen 1 0) ({ h with pos:=18,grow:=(i:Int) }):=by simp at hs K;simp [iw,kF,hs,K,J] at H ⊢;simp [H])
    rw [e];have T:=aA fun W a b=>lM c i h.seen 1 0 v1 v2 lo W a b hi
    first
    | (replace mA:=mA
       have D:=aA fun W=>bV (bU c i h.seen 1 0) (bF h) v1 v2 lo W
       generalize done (bU c i h.seen 1 0) (bF h)=x at *)
    | (replace mB:=mB
       have D:=aA fun W=>bV (bU c i h.seen 1 0) ({ h with pos:=18,grow:=(i:Int) }) v1 v2 lo W
       generalize done (bU c i h.seen 1 0) ({ h with pos:=18,grow:=(i:Int) })=x at *)
    rw [H] at T;have b1:=nC h1;have b2:=nC h2;have X:=sH b1;have Y:=sH b2;have a6:=X (w.heap.size) tO;have ab:=Y (w.heap.size) tO;have a7:=X (w+1) tO;have ac:=Y (w+1) tO;have a8:=X (w+1+1) tO;have ad:=Y (w+1+1) tO;have a9:=X (w+1+1+1) tO;have ae:=Y (w+1+1+1) tO;have o1:=h1;have o2:=h2;obtain ⟨a1,q1,e1,_⟩:=h1.seg;obtain ⟨a2,q2,e2,_⟩:=h2.seg;subst e1 e2;clear h1 h2 e ht;go_enter func211,ntmps211;go_wp2_with fail;refine aK w zB fun bb=>?_;refine (l8 _ _).mono ?_;rintro _ M ⟨rfl,G⟩;have L:Below w w M:=bT bb G;have V:=G.size;(try simp at V);have zz:=q4 G (b:=w);(try simp [go_sem] at zz);(try clear eH iH iI gm);(try clear fV jW jX iE);(try clear tH D5 D6 ze);(try clear kW sU sV oz);obtain ⟨eH,fV,tH,kW⟩:=zz;obtain ⟨iH,iI,gm⟩:=bO eH;obtain ⟨jW,jX,iE⟩:=bO fV;obtain ⟨D5,D6,ze⟩:=bO tH;obtain ⟨sU,sV,oz⟩:=bO kW;clear G bb
    have o3:=own_below o1 L;have o4:=own_below o2 L;have aa:=X M tO;have af:=Y M tO;have I:M<M.heap.size+1:=tO;obtain ⟨k0,k1,k2,k3⟩:=pz (a:=w) (b:=M);go_wp2_with fail;refine (T.out _ (zO o3 o1) (zO o4 o2)).mono ?_;rintro _ Z ⟨rfl,p1,p2,F⟩;have U:=F.size;(try (simp at U));have zz:=And.intro (bM F (b:=M) tS dM) <| And.intro (bM F (b:=w+1+1+1) tS dM) <| And.intro (bM F (b:=w+1+1) tS dM) <| And.intro (bM F (b:=w+1) tS dM) <| bM F (b:=w) tS dM;(first|simp [go_sem,eH,fV,tH,kW,oz,I,ze,iE,gm,k0,k1,k2,k3] at zz|simp [go_sem] at zz|skip);(try clear N a0 O I);(try clear eH iH iI gm);(try clear fV jW jX iE);(try clear tH D5 D6 ze);(try clear kW sU sV oz);obtain ⟨N,eH,fV,tH,kW⟩:=zz;obtain ⟨a0,O,I⟩:=bO N;obtain ⟨iH,iI,gm⟩:=bO eH;obtain ⟨jW,jX,iE⟩:=bO fV;obtain ⟨D5,D6,ze⟩:=bO tH;obtain ⟨sU,sV,oz⟩:=bO kW;have R:=NT (w:=w) zB F;clear F
    have a3:ni (Value.slice a1 c.cells q1).ownBlock (Value.slice a2 c.words q2).ownBlock w Z:=rA R;clear k0 k1 k2 k3;obtain ⟨k0,k1,k2,k3⟩:=pz (a:=w) (b:=Z);have k4:M<Z.heap.size:=tO;have r1:aF Z lo (.slice a1 c.cells q1) (bU c i h.seen 1 0).cells:=p1;have r2:aI Z lo (.slice a2 c.words q2) (bU c i h.seen 1 0).words:=p2;exact Uk
theorem Nc (c:Ch) (h:Ha) (v1 v2:Value) (lo:Nat) (w:World) (h1:aF w lo v1 c.cells) (h2:aI w lo v2 c.words) (F:0≤h.grow) (G:h.grow<c.cells.length) (hs:(h.seen == 3)=false) (H:(h.seen == 0)=true) (ht:bB c h.grow h.seen 1 0=true) :
    Calls prog 211 #[.agg (aH c v1 v2),.agg (aB h)] w fun r w'=>eB w w' lo v1 v2 (iw c h) r:=(AZ c h v1 v2 lo w h1 h2 F G hs H).1 ht
theorem Nf (c:Ch) (h:Ha) (v1 v2:Value) (lo:Nat) (w:World) (h1:aF w lo v1 c.cells) (h2:aI w lo v2 c.words) (F:0≤h.grow) (G:h.grow<c.cells.length) (hs:(h.seen == 3)=false) (H:(h.seen == 0)=true) (ht:bB c h.grow h.seen 1 0=false) :
    Calls prog 211 #[.agg (aH c v1 v2),.agg (aB h)] w fun r w'=>eB w w' lo v1 v2 (iw c h) r:=(AZ c h v1 v2 lo w h1 h2 F G hs H).2 ht
theorem Ng (c:Ch) (h:Ha) (v1 v2:Value) (lo:Nat) (w:World) (h1:aF w lo v1 c.cells) (h2:aI w lo v2 c.words) (hs:(h.seen == 3)=false) (N:(h.seen == 0)=false) :
    ed 211 c h v1 v2 lo w (iw c h):=by
  have e:iw c h=nothing:=by simp at hs N;simp [iw,hs,N]
  rw [e];have T:=aA (jL · lo v1 v2);generalize nothing=x at *;have b1:=nC h1;have b2:=nC h2;have U:=sH b1;have V:=sH b2;have a5:=U (w.heap.size) tO;have a9:=V (w.heap.size) tO;have a6:=U (w+1) tO;have aa:=V (w+1) tO;have a7:=U (w+1+1) tO;have ab:=V (w+1+1) tO;have a8:=U (w+1+1+1) tO;have ac:=V (w+1+1+1) tO;have o1:=h1;have o2:=h2;obtain ⟨a1,q1,e1,_⟩:=h1.seg;obtain ⟨a2,q2,e2,_⟩:=h2.seg;subst e1 e2;clear h1 h2 e
  go_enter func211,ntmps211
  go_wp2_with fail;refine aK w zB fun M=>?_;refine (l8 _ _).mono ?_;rintro _ w4 ⟨rfl,G⟩;obtain ⟨a4,R,H⟩:=gZ M G (b:=w);(try simp at R);(try simp [go_sem] at H);replace bX:=fP H;clear H G M
  go_wp2_with fail;refine aK w zB fun M=>?_;refine (T.out _).mono ?_;rintro _ w1 ⟨⟨y1,y2,rfl,K,L,X,Y⟩,F⟩;obtain ⟨a3,O,H⟩:=gZ M F (b:=w);(try simp at O);(first|simp [go_sem,bX] at H|simp [go_sem] at H|skip);replace bX:=fP H;clear H F M
  obtain ⟨⟨I,J⟩,Z,a0⟩:=sO (w:=w) (w+1+1+1+1) X Y b1 b2;obtain ⟨ya,yp,rfl,_⟩:=K.seg;obtain ⟨yb,yq,rfl,_⟩:=L.seg;go_wp2;refine rE results211 rfl (bN x.1 (.slice ya x.1.cells yp) (.slice yb x.1.words yq) tY) rfl (aQ x.2.1 tY) ⟨⟨_,_,rfl,?_,?_,Z,a0⟩,gy zB⟩
  · exact zP K K I
  · exact zP L L J
theorem JP (c:Ch) (h:Ha) (v1 v2:Value) (lo:Nat) (w:World) (h1:aF w lo v1 c.cells) (h2:aI w lo v2 c.words) (F:0≤h.grow) (G:h.grow<c.cells.length) :
    ed 211 c h v1 v2 lo w (iw c h):=by
  by_cases H:h.seen=3
  · cases ht:bB c h.grow h.seen 6 h.wait with
    | true=>exact Na c h v1 v2 lo w h1 h2 F G sF (by simp [H]) ht
    | false=>exact Nb c h v1 v2 lo w h1 h2 F G sF (by simp [H]) ht
  · by_cases I:h.seen=0
    · cases ht:bB c h.grow h.seen 1 0 with
      | true=>exact Nc c h v1 v2 lo w h1 h2 F G sF wT ht
      | false=>exact Nf c h v1 v2 lo w h1 h2 F G sF wT ht
    · exact Ng c h v1 v2 lo w h1 h2 sF wT
end
end Go.Proofs.YtffhjmepfojhnaaGreat
