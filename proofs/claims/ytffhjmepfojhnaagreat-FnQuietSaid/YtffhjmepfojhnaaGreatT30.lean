/-
  Steps of growing of the reference model, all cases, on hands and channels that are kept whole; lists lie in memory and hold at most 2 ^ 40 elements.
-/
import Derived.Test.YtffhjmepfojhnaaGreatT25
import Derived.Test.YtffhjmepfojhnaaGreatT27
import Derived.Test.YtffhjmepfojhnaaGreatT15
import Derived.Test.YtffhjmepfojhnaaGreatT26
import Derived.Test.YtffhjmepfojhnaaGreatT22
import Derived.Test.YtffhjmepfojhnaaGreatT16
import Derived.Test.YtffhjmepfojhnaaGreatT18
import Derived.Test.YtffhjmepfojhnaaGreatT05
set_option maxRecDepth 100000
set_option maxHeartbeats 4000000
set_option linter.unusedSimpArgs false
set_option linter.unusedVariables false
namespace Go.Proofs.YtffhjmepfojhnaaGreat
open _root_.Go.Proofs.Tryz
section
open Go.RowKit
attribute [local simp] dz
attribute [local go_sem ↓] dA fU dO gW dP gY dW fE bK eO
theorem Q8 (c:Ch) (h:Ha) (a b:Option Addr) (p q:Nat) (w:World) (h1:gG w w a c.cells) (z1:a=none→p=0) (h2:gI w w b c.words) (z2:b=none→q=0) (O:bC c h 16 22 2=true) (R:h.pos=16) :
  Calls prog 191 #[.agg (aH c (.slice a c.cells p) (.slice b c.words q)),.agg (aB h)] w fun r w'=>dU w w' (aW c h) r:=by
 obtain ⟨k1,k2,_,_⟩:=cO O;obtain ⟨n1,T⟩:=fT k1;have m1:c.cells.length≤1099511627776:=tO;have m2:c.words.length≤1099511627776:=tO;have V:=aA h1;have X:=aA h2;have Z1:=aA z1;have Z2:=aA z2;have e:aW c h=done (ib c h).1 (ib c h).2:=by simp [aW,O,R]
 rw [e];have J:0≤c.fin∧c.fin≤40:=Qr k1;have K:=fun Y Z n1 T q1 q2 W=>GA c h Y Z n1 T q1 q2 W J
 have D:=fun v1 v2 W=>bV (ib c h).1 (ib c h).2 v1 v2 w W
 rw [G8,G9] at D;generalize done (ib c h).1 (ib c h).2=x at *;generalize (ib c h).1=cb at *;generalize (ib c h).2=hb at *;replace K:=aA K;replace D:=aA D;clear h1 h2 z1 z2 e k1 k2 n1 T;go_enter func191,ntmps191;go_wp2_with fail;refine aK w zB fun bb=>?_;refine (eQ c h 16 22 2 a b p q _ (aT V bb) (aT X bb)).mono ?_;rintro _ w1 ⟨rfl,H⟩;obtain ⟨a0,L,zz⟩:=gZ bb H (b:=w);(try simp at L);(try simp [go_sem] at zz);replace bX:=fP zz;clear zz H bb
 rw [O];go_wp2_with fail;refine aK w zB fun bb=>?_;refine (eT c a b p q _ (aT V bb) Z1.out (aT X bb) Z2.out m1 m2).mono ?_;rintro _ U ⟨⟨v1,v2,rfl,o1,o2⟩,I⟩;obtain ⟨a3,M,zz⟩:=gZ bb I (b:=w);(try simp at M);(first|simp [go_sem,bX] at zz|simp [go_sem] at zz|skip);replace bX:=fP zz;clear zz I bb
 have d1:=mD o1 (w+1+1+1+1);have d2:=mD o2 (w+1+1+1+1);have p1:=aL (lo':=w) o1 tO;have p2:=aL (lo':=w) o2 tO;obtain ⟨Y,q1,rfl,_⟩:=o1.seg;obtain ⟨Z,q2,rfl,_⟩:=o2.seg;obtain ⟨k0,k1,k2,k3⟩:=pz (a:=w) (b:=U);go_wp2_with fail;refine aK w zB fun bb=>?_;refine aK U zB fun bk=>?_;refine (K.out _ _ _ _ _ _ _).mono ?_;rintro _ w4 ⟨rfl,F⟩;have a4:=bT bb F;have N:=F.size;(try simp at N);have zz:=And.intro (hQ F (b:=U)) <| And.intro (hQ F (b:=w+1+1+1)) <| And.intro (hQ F (b:=w+1+1)) <| And.intro (hQ F (b:=w+1)) <| hQ F (b:=w);(first|simp [go_sem,bX,k0,k1,k2,k3] at zz|simp [go_sem] at zz|skip);replace bX:=ng zz;clear zz;have G:=bT bk F;clear F bb bk
 have s1:=own_below p1 G;have s2:=own_below p2 G;exact Ol
theorem Q9 (c:Ch) (h:Ha) (a b:Option Addr) (p q:Nat) (w:World) (h1:gG w w a c.cells) (z1:a=none→p=0) (h2:gI w w b c.words) (z2:b=none→q=0) (X:bC c h 16 22 2=true) (Y:h.pos=19) :
  Calls prog 191 #[.agg (aH c (.slice a c.cells p) (.slice b c.words q)),.agg (aB h)] w fun r w'=>dU w w' (aW c h) r:=by
 obtain ⟨k1,k2,_,_⟩:=cO X;obtain ⟨n1,n2⟩:=fT k1;have m1:c.cells.length≤1099511627776:=tO;have m2:c.words.length≤1099511627776:=tO;have Z:=aA h1;have H2:=aA h2;have Z1:=aA z1;have Z2:=aA z2;obtain ⟨c1,c2⟩:=qQ k2;have e:aW c h=iw c h:=by simp [aW,X,Y]
 rw [e];have D:=aA fun v1 v2 W x1 x2=>JP c h v1 v2 w W x1 x2 c1 tO
 generalize iw c h=x at *;clear h1 h2 z1 z2 e k1 k2 n1 n2 c1 c2;go_enter func191,ntmps191;go_wp2_with fail;refine aK w zB fun G=>?_;refine (eQ c h 16 22 2 a b p q _ (aT Z G) (aT H2 G)).mono ?_;rintro _ w1 ⟨rfl,H⟩;obtain ⟨a0,K,F⟩:=gZ G H (b:=w);(try simp at K);(try simp [go_sem] at F);replace N:=fP F;clear F H G
 rw [X];go_wp2_with fail;refine aK w zB fun G=>?_;refine (eT c a b p q _ (aT Z G) Z1.out (aT H2 G) Z2.out m1 m2).mono ?_;rintro _ w2 ⟨⟨v1,v2,rfl,U,V⟩,I⟩;obtain ⟨a3,L,F⟩:=gZ G I (b:=w);(try simp at L);(first|simp [go_sem,N] at F|simp [go_sem] at F|skip);replace N:=fP F;clear F I G
 have d1:=mD U (w+1+1+1+1);have d2:=mD V (w+1+1+1+1);have p1:=aL (lo':=w) U tO;have p2:=aL (lo':=w) V tO;obtain ⟨a1,q1,rfl,_⟩:=U.seg;obtain ⟨a2,q2,rfl,_⟩:=V.seg;have R:∀ j,j<w.heap.size+1+1+1+1→some j≠(Value.slice a1 c.cells q1).ownBlock:=fun j J e=>by have:=d1 _ e.symm;omega
 have T:∀ j,j<w.heap.size+1+1+1+1→some j≠(Value.slice a2 c.words q2).ownBlock:=fun j J e=>by have:=d2 _ e.symm;omega
 have a5:=R (w.heap.size) tO;have a9:=T (w.heap.size) tO;have a6:=R (w+1) tO;have aa:=T (w+1) tO;have a7:=R (w+1+1) tO;have ab:=T (w+1+1) tO;have a8:=R (w+1+1+1) tO;have ac:=T (w+1+1+1) tO;go_wp2_with fail;refine (D.out _ _ _ (zO p1 U) (zO p2 V)).mono ?_;rintro _ w3 ⟨⟨y1,y2,rfl,jF,jG,nQ,ny⟩,O⟩;have a4:Below w w w3:=Lt zB O (fun j J=>by have:=d1 j J;omega) (fun j J=>by have:=d2 j J;omega);have M:=O.2.2.2.1;(try (simp at M));have F:=QU O (b:=w);(first|simp [go_sem,N] at F|simp [go_sem] at F|skip);replace N:=fP F;clear F
 clear O;exact Oa
theorem BX (c:Ch) (h:Ha) (a b:Option Addr) (p q:Nat) (w:World) (h1:gG w w a c.cells) (z1:a=none→p=0) (h2:gI w w b c.words) (G:b=none→q=0) :
  Calls prog 191 #[.agg (aH c (.slice a c.cells p) (.slice b c.words q)),.agg (aB h)] w fun r w'=>dU w w' (aW c h) r:=by
 cases F:bC c h 16 22 2 with
 | false=>exact Qp c h a b p q w h1 h2 F
 | true =>
  obtain ⟨H,_,I,J⟩:=cO F;have hp:h.pos=16∨h.pos=17∨h.pos=18∨h.pos=19∨h.pos=20∨h.pos=21∨h.pos=22:=tO;rcases hp with hp|hp|hp|hp|hp|hp|hp
  ·exact Q8 c h a b p q w h1 z1 h2 G F hp
  ·by_cases hs:c.sent≤h.grow
   ·exact MU c h a b p q w h1 z1 h2 G F hp hs
   ·exact MV c h a b p q w h1 z1 h2 G F hp hs
  ·by_cases hs:(cellAt c h.grow).s=5
   ·exact Np c h a b p q w h1 z1 h2 G F hp hs
   ·exact Nq c h a b p q w h1 z1 h2 G F hp (by simpa using hs)
  ·exact Q9 c h a b p q w h1 z1 h2 G F hp
  ·cases ht:eG c h.wait 1 with
   | true=>exact MX c h a b p q w h1 z1 h2 G F hp ht
   | false=>exact MZ c h a b p q w h1 z1 h2 G F hp ht
  ·exact Qv c h a b p q w h1 z1 h2 G F hp
  ·exact Qw c h a b p q w h1 z1 h2 G F hp
theorem TE (c:Ch) (h:Ha) (a b:Option Addr) (p q:Nat) (w:World) (h1:gG w w a c.cells) (z1:a=none→p=0) (h2:gI w w b c.words) (z2:b=none→q=0) (F:1≤h.pos) (G:h.pos≤8) :
  Calls prog 173 #[.agg (aH c (.slice a c.cells p) (.slice b c.words q)),.agg (aB h)] w fun r w'=>dU w w' (fu c h) r:=by
 have e:fu c h=bE c h:=by simp [fu,dV,F,G]
 rw [e];have H1:=aA h1;have H2:=aA h2;have Z1:=aA z1;have Z2:=aA z2;have T:=aA fun W=>BR c h a b p q W
 generalize bE c h=x at *;exact NZ
theorem TF (c:Ch) (h:Ha) (a b:Option Addr) (p q:Nat) (w:World) (h1:gG w w a c.cells) (z1:a=none→p=0) (h2:gI w w b c.words) (z2:b=none→q=0) (F:9≤h.pos) (G:h.pos≤15) :
  Calls prog 173 #[.agg (aH c (.slice a c.cells p) (.slice b c.words q)),.agg (aB h)] w fun r w'=>dU w w' (fu c h) r:=by
 have e:fu c h=aO c h:=by rw [fu,if_neg tC,if_pos tC]
 rw [e];have H:1≤h.pos:=tO;have u8:¬ h.pos≤8:=tO;have H1:=aA h1;have H2:=aA h2;have Z1:=aA z1;have Z2:=aA z2;have T:=aA fun W=>BQ c h a b p q W
 generalize aO c h=x at *;exact NZ
theorem TG (c:Ch) (h:Ha) (a b:Option Addr) (p q:Nat) (w:World) (h1:gG w w a c.cells) (z1:a=none→p=0) (h2:gI w w b c.words) (z2:b=none→q=0) (F:16≤h.pos) (G:h.pos≤22) :
  Calls prog 173 #[.agg (aH c (.slice a c.cells p) (.slice b c.words q)),.agg (aB h)] w fun r w'=>dU w w' (fu c h) r:=by
 have e:fu c h=aW c h:=by rw [fu,if_neg tC,if_neg tC,if_pos tC]
 rw [e];have I:1≤h.pos:=tO;have J:9≤h.pos:=tO;have u8:¬ h.pos≤8:=tO;have H:¬ h.pos≤15:=tO;have H1:=aA h1;have H2:=aA h2;have Z1:=aA z1;have Z2:=aA z2;have T:=aA fun W=>BX c h a b p q W
 generalize aW c h=x at *;exact NZ
theorem TH (c:Ch) (h:Ha) (a b:Option Addr) (p q:Nat) (w:World) (h1:gG w w a c.cells) (z1:a=none→p=0) (h2:gI w w b c.words) (z2:b=none→q=0) (F:23≤h.pos) :
  Calls prog 173 #[.agg (aH c (.slice a c.cells p) (.slice b c.words q)),.agg (aB h)] w fun r w'=>dU w w' (fu c h) r:=by
 have e:fu c h=bJ c h:=by rw [fu,if_neg tC,if_neg tC,if_neg tC]
 rw [e];have J:1≤h.pos:=tO;have K:9≤h.pos:=tO;have G:16≤h.pos:=tO;have u8:¬ h.pos≤8:=tO;have H:¬ h.pos≤15:=tO;have I:¬ h.pos≤22:=tO;have H1:=aA h1;have H2:=aA h2;have Z1:=aA z1;have Z2:=aA z2;have T:=aA fun W=>vI c h a b p q W
 generalize bJ c h=x at *;exact NZ
theorem TI (c:Ch) (h:Ha) (a b:Option Addr) (p q:Nat) (w:World) (h1:gG w w a c.cells) (z1:a=none→p=0) (h2:gI w w b c.words) (z2:b=none→q=0) (F:h.pos≤0) :
  Calls prog 173 #[.agg (aH c (.slice a c.cells p) (.slice b c.words q)),.agg (aB h)] w fun r w'=>dU w w' (fu c h) r:=by
 have e:fu c h=bJ c h:=by rw [fu,if_neg tC,if_neg tC,if_neg tC]
 rw [e];have H:¬ 1≤h.pos:=tO;have I:¬ 9≤h.pos:=tO;have G:¬ 16≤h.pos:=tO;have H1:=aA h1;have H2:=aA h2;have Z1:=aA z1;have Z2:=aA z2;have T:=aA fun W=>vI c h a b p q W
 generalize bJ c h=x at *;exact NZ
theorem qV (c:Ch) (h:Ha) (a b:Option Addr) (p q:Nat) (w:World) (h1:gG w w a c.cells) (z1:a=none→p=0) (h2:gI w w b c.words) (G:b=none→q=0) :
  Calls prog 173 #[.agg (aH c (.slice a c.cells p) (.slice b c.words q)),.agg (aB h)] w fun r w'=>dU w w' (fu c h) r:=by
 have hp:h.pos≤0∨(1≤h.pos∧h.pos≤8)∨(9≤h.pos∧h.pos≤15)∨(16≤h.pos∧h.pos≤22)∨23≤h.pos:=tO;rcases hp with hp|⟨hp,F⟩|⟨hp,F⟩|⟨hp,F⟩|hp
 ·exact TI c h a b p q w h1 z1 h2 G hp
 ·exact TE c h a b p q w h1 z1 h2 G hp F
 ·exact TF c h a b p q w h1 z1 h2 G hp F
 ·exact TG c h a b p q w h1 z1 h2 G hp F
 ·exact TH c h a b p q w h1 z1 h2 G hp
end
section
open Go.RowKit
attribute [local simp] dz
attribute [local go_sem ↓] dA dO dP jv bK
attribute [local go_sem] iG
theorem yS (x:Wo) (who:Int) (S:St) (a b d e:Option Addr) (p q r s:Nat) (w:World) (h1:gG w w a x.ch.cells) (z1:a=none→p=0) (h2:gI w w b x.ch.words) (z2:b=none→q=0) (h3:qX w w d x.hands) (z3:d=none→x.hands.length=0∧r=0) (h4:uh w w e x.deals) (z4:e=none→x.deals.length=0∧s=0) (m1:x.ch.cells.length≤1099511627776) (m2:x.ch.words.length≤1099511627776) (m3:x.hands.length≤1099511627776) (m4:x.deals.length≤1099511627776) (ht:bW x who=true) (hS:fu x.ch (aJ x who)=S) :
  (∀ (hc:S.2.2=false),Calls prog 135 #[oI x a b d e p q r s,.int .i64 who] w fun r w'=>ig w w' (stepW x who S).1 (.bool (stepW x who S).2) r) ∧
  (∀ (hc:S.2.2=true) (hn:(x.now == 20000)=true),Calls prog 135 #[oI x a b d e p q r s,.int .i64 who] w fun r w'=>ig w w' (stepW x who S).1 (.bool (stepW x who S).2) r):=by
 constructor
 case' left =>
  intro hc;have mA:Hid (0=0):=rfl
 case' right =>
  intro hc hn;have mB:Hid (0=0):=rfl
 all_goals
  have H1:=aA h1;have H2:=aA h2;have H3:=aA h3;have H4:=aA h4;have Z1:=aA z1;have Z2:=aA z2;have Z3:=aA z3;have Z4:=aA z4;clear h1 h2 h3 h4 z1 z2 z3 z4;obtain ⟨i,rfl⟩:∃ i:Nat,who=(i:Int):=⟨who.toNat,by simp [bW,gP,dV] at ht;omega⟩;have hi:i<x.hands.length:=by simp [bW,gP,dV] at ht;omega
  obtain ⟨G,o3,rfl,Y,a1⟩:∃ b o,d=some ⟨b,o,none⟩∧b<w.heap.size∧Hid (∀ i j,i<x.hands.length→j<14→w.cell? ⟨b,o+i*14+j,none⟩=some (fO x.hands i j)):=by
   rcases H3.out with h0|h0
   ·omega
   ·exact h0
  have a2:∀ W:World,hp W G=hp w G→(nY (.pointer (some ⟨G,o3+i*14,none⟩))).run prog W=.ok (.agg (aB (aJ x i))) W:=fun W e=>lJ _ fun j hj=>by rw [show (aB (aJ x i)).getD j (.int .i64 0)=fO x.hands i j by simp [fO,aJ],← a1.out i j hi hj];exact World.cell?_of_block e
  have a3:(0:Int)≤(i:Int):=tO;have a4:(i:Int)<(x.hands.length:Int):=tO
  first
  | (replace mA:=mA;have e0:stepW x i S=(x,false):=by simp [stepW,hc])
  | (replace mB:=mB;have e0:stepW x i S=(x,false):=by simp at hn;simp [stepW,hn])
  rw [e0];clear e0;have T:=aA fun a b p q W=>qV x.ch (aJ x i) a b p q W
  rw [hS] at T;clear hS;have a5:G<w.heap.size+1:=tO;have a6:G<w.heap.size+1+1:=tO;have OH:G≠w.heap.size:=tO;have zX:G≠w.heap.size+1:=tO;go_enter func135,ntmps135;go_wp2_with fail;refine aK w zB fun H=>?_;refine (T.out a b p q _ (aT H1 H) Z1.out (aT H2 H) Z2.out).mono ?_;rintro _ L ⟨⟨y1,y2,rfl,J,K,_,_⟩,M⟩;obtain ⟨V,Z,N⟩:=sG H M (b:=w);(try simp at Z);(try simp [go_sem] at N);replace bX:=pq N;clear N M H
  try simp at J K
  have U1:=aA J;have U2:=aA K;obtain ⟨ya,yc,rfl,_⟩:=aF.seg J;obtain ⟨yb,yd,rfl,_⟩:=aI.seg K;clear J K;simp only [aH];have z2:hp L G=hp w G:=V.block G Y;have a7:G<L.heap.size:=tO;have pq:G≠L.heap.size:=tO;have fP:G≠L.heap.size+1:=tO;have a8:G<L.heap.size+1:=tO;rw [hc];go_wp2_with fail;refine aK w zB fun H=>?_;refine (iR x a b _ e p q r s _ (aT H1 H) Z1.out (aT H2 H) Z2.out (aT H3 H) Z3.out (aT H4 H) Z4.out m1 m2 m3 m4).mono ?_;rintro _ w3 ⟨⟨v1,v2,v3,v4,rfl,O,R,I,U⟩,F⟩;have X:=bT H F;have a0:=F.size;(try simp at a0);have N:=And.intro (sJ F (b:=w+1+1)) <| And.intro (sJ F (b:=w+1)) <| sJ F (b:=w);(first|simp [go_sem,bX] at N|simp [go_sem] at N|skip);replace bX:=N;clear N F H
  try simp at O R I U
  have O1:=aA O;have O2:=aA R;have O3:=aA I;have O4:=aA U;obtain ⟨va,vc,rfl,_⟩:=aF.seg O;obtain ⟨vb,vd,rfl,_⟩:=aI.seg R;obtain ⟨vf,vg,rfl,_⟩:=dY.seg I;obtain ⟨vh,vi,rfl,_⟩:=gU.seg U;clear O R I U;have z3:hp w3 G=hp w G:=X.block G Y;go_wp2;have O:=O1.out;have R:=O2.out;have o3:=O3.out;have U:=O4.out;refine bodyPost_ret (v:=.tuple #[.agg #[x.ch.cap,x.ch.sent,x.ch.got,x.ch.fin,.slice va x.ch.cells vc,.slice vb x.ch.words vd,.slice vf x.hands vg,.slice vh x.deals vi,.int .i64 (x.now)],.bool false]) Fj rfl ⟨⟨_,_,_,_,rfl,aL (lo:=L+1+1) ?_ tO,aL (lo:=L+1+1) ?_ tO,aL (lo:=L+1+1) ?_ tO,aL (lo:=L+1+1) ?_ tO⟩,zB⟩
  ·exact zO O O
  ·exact zO R R
  ·exact zO o3 o3
  ·exact zO U U
theorem JW (x:Wo) (who:Int) (S:St) (a b d e:Option Addr) (p q r s:Nat) (w:World) (h1:gG w w a x.ch.cells) (z1:a=none→p=0) (h2:gI w w b x.ch.words) (L:b=none→q=0) (h3:qX w w d x.hands) (M:d=none→x.hands.length=0∧r=0) (F:uh w w e x.deals) (N:e=none→x.deals.length=0∧s=0) (H:x.ch.cells.length≤1099511627776) (I:x.ch.words.length≤1099511627776) (J:x.hands.length≤1099511627776) (K:x.deals.length≤1099511627776) (ht:bW x who=true) (G:fu x.ch (aJ x who)=S) (hc:S.2.2=false) :
  Calls prog 135 #[oI x a b d e p q r s,.int .i64 who] w fun r w'=>ig w w' (stepW x who S).1 (.bool (stepW x who S).2) r:=(yS x who S a b d e p q r s w h1 z1 h2 L h3 M F N H I J K ht G).1 hc
theorem E8 (x:Wo) (who:Int) (S:St) (a b d e:Option Addr) (p q r s:Nat) (w:World) (h1:gG w w a x.ch.cells) (z1:a=none→p=0) (h2:gI w w b x.ch.words) (M:b=none→q=0) (h3:qX w w d x.hands) (N:d=none→x.hands.length=0∧r=0) (F:uh w w e x.deals) (O:e=none→x.deals.length=0∧s=0) (I:x.ch.cells.length≤1099511627776) (J:x.ch.words.length≤1099511627776) (K:x.hands.length≤1099511627776) (L:x.deals.length≤1099511627776) (ht:bW x who=true) (G:fu x.ch (aJ x who)=S) (hc:S.2.2=true) (H:(x.now == 20000)=true) :
  Calls prog 135 #[oI x a b d e p q r s,.int .i64 who] w fun r w'=>ig w w' (stepW x who S).1 (.bool (stepW x who S).2) r:=(yS x who S a b d e p q r s w h1 z1 h2 M h3 N F O I J K L ht G).2 hc H
end
section
open Go.RowKit
attribute [local simp] dz
attribute [local go_sem ↓] dA dO dP jv bK
attribute [local go_sem] iG
attribute [local go_sem] zy uX lQ
theorem JX (x:Wo) (who:Int) (S:St) (a b d e:Option Addr) (p q r s:Nat) (w:World) (h1:gG w w a x.ch.cells) (z1:a=none→p=0) (h2:gI w w b x.ch.words) (z2:b=none→q=0) (h3:qX w w d x.hands) (z3:d=none→x.hands.length=0∧r=0) (h4:uh w w e x.deals) (z4:e=none→x.deals.length=0∧s=0) (m1:x.ch.cells.length≤1099511627776) (m2:x.ch.words.length≤1099511627776) (m3:x.hands.length≤1099511627776) (m4:x.deals.length≤1099511627776) (ht:bW x who=true) (hS:fu x.ch (aJ x who)=S) (hc:S.2.2=true) (hn:(x.now == 20000)=false) (ah:0≤x.now∧x.now≤20000) (hx:(S.2.1.pos != 0)=true) :
  Calls prog 135 #[oI x a b d e p q r s,.int .i64 who] w fun r w'=>ig w w' (stepW x who S).1 (.bool (stepW x who S).2) r:=by
 have H1:=aA h1;have H2:=aA h2;have H3:=aA h3;have H4:=aA h4;have Z1:=aA z1;have Z2:=aA z2;have Z3:=aA z3;have Z4:=aA z4;clear h1 h2 h3 h4 z1 z2 z3 z4;obtain ⟨i,rfl⟩:∃ i:Nat,who=(i:Int):=⟨who.toNat,by simp [bW,gP,dV] at ht;omega⟩;have hi:i<x.hands.length:=by simp [bW,gP,dV] at ht;omega
 obtain ⟨G,M,rfl,a1,a4⟩:∃ b o,d=some ⟨b,o,none⟩∧b<w.heap.size∧Hid (∀ i j,i<x.hands.length→j<14→w.cell? ⟨b,o+i*14+j,none⟩=some (fO x.hands i j)):=by
  rcases H3.out with h0|h0
  ·omega
  ·exact h0
 have ac:∀ W:World,hp W G=hp w G→(nY (.pointer (some ⟨G,M+i*14,none⟩))).run prog W=.ok (.agg (aB (aJ x i))) W:=fun W e=>lJ _ fun j hj=>by rw [show (aB (aJ x i)).getD j (.int .i64 0)=fO x.hands i j by simp [fO,aJ],← a4.out i j hi hj];exact World.cell?_of_block e
 have ae:(0:Int)≤(i:Int):=tO;have af:(i:Int)<(x.hands.length:Int):=tO;have e0:stepW x i S=({ fQ x i S.2.1 with now:=x.now+1,ch:=S.1 },true):=by simp at hn hx;simp [stepW,hc,hn,hx]
 rw [e0];clear e0;have T:=aA fun a b p q W=>qV x.ch (aJ x i) a b p q W
 rw [hS] at T;clear hS;have ai:G<w.heap.size+1:=tO;have aj:G<w.heap.size+1+1:=tO;have OH:G≠w.heap.size:=tO;have zX:G≠w.heap.size+1:=tO;go_enter func135,ntmps135;go_wp2_with fail;refine aK w zB fun I=>?_;refine (T.out a b p q _ (aT H1 I) Z1.out (aT H2 I) Z2.out).mono ?_;rintro _ H ⟨⟨y1,y2,rfl,O,R,_,_⟩,V⟩;obtain ⟨Z,a2,X⟩:=sG I V (b:=w);(try simp at a2);(try simp [go_sem] at X);replace bX:=pq X;clear X V I
 try simp at O R
 have U1:=aA O;have U2:=aA R;obtain ⟨ya,yc,rfl,_⟩:=aF.seg O;obtain ⟨yb,yd,rfl,_⟩:=aI.seg R;clear O R;simp only [aH];have z2:hp H G=hp w G:=Z.block G a1;have ak:G<H.heap.size:=tO;have pq:G≠H.heap.size:=tO;have fP:G≠H.heap.size+1:=tO;have al:G<H.heap.size+1:=tO;rw [hc];go_wp2_with fail;refine aK w zB fun I=>?_;refine aK H zB fun bk=>?_;refine (iR x a b _ e p q r s _ (aT H1 I) Z1.out (aT H2 I) Z2.out (aT H3 I) Z3.out (aT H4 I) Z4.out m1 m2 m3 m4).mono ?_;rintro _ Y ⟨⟨v1,v2,v3,v4,rfl,J,K,N,L⟩,F⟩;have a0:=bT I F;have a3:=F.size;(try simp at a3);have X:=And.intro (hQ F (b:=H+1)) <| And.intro (hQ F (b:=H)) <| And.intro (hQ F (b:=w+1+1)) <| And.intro (hQ F (b:=w+1)) <| hQ F (b:=w);(first|simp [go_sem,bX] at X|simp [go_sem] at X|skip);replace bX:=ng X;clear X;have U:=bT bk F;clear F I bk
 try simp at J K N L
 have O1:=aA J;have O2:=aA K;have O3:=aA N;have O4:=aA L;obtain ⟨va,vc,rfl,_⟩:=aF.seg J;obtain ⟨vb,vd,rfl,_⟩:=aI.seg K;obtain ⟨g,vg,rfl,ag,lg,a5,a6⟩:=dY.open1 N hi;obtain ⟨vh,vi,rfl,_⟩:=gU.seg L;clear J K N L;have z3:hp Y G=hp w G:=a0.block G a1;have av:g≠w.heap.size:=tO;have an:w.heap.size≠g:=tO;have aw:g≠w.heap.size+1:=tO;have ao:w.heap.size+1≠g:=tO;have ax:g≠w.heap.size+1+1:=tO;have ap:w.heap.size+1+1≠g:=tO
 have ay:g≠H.heap.size:=tO;have aq:H.heap.size≠g:=tO;have az:g≠H.heap.size+1:=tO;have ar:H.heap.size+1≠g:=tO;have b0:g≠Y.heap.size:=tO;have au:Y.heap.size≠g:=tO;have a7:w.heap.size<g:=tO;have a8:w.heap.size+1<g:=tO;have a9:w.heap.size+1+1<g:=tO;have aa:H.heap.size<g:=tO;have ab:H.heap.size+1<g:=tO;have am:g<Y.heap.size+1:=tO;have ad:∀ (W:World) (y:Ha),hp W g=hp Y g→(xx (.pointer (some ⟨g,i*14,none⟩)) (.agg (aB y))).run prog W=.ok () (jw W g (i*14) y):=fun W y e=>zx y (fun j hj=>⟨_,(World.cell?_of_block (show W.heap[g]?=Y.heap[g]? from e)).trans (a5 j hj)⟩) (fun j=>(World.frozen?_of_block (show W.heap[g]?=Y.heap[g]? from e)).trans (a6 j))
 go_wp2;have J:=own_below U1.out U;have K:=own_below U2.out U;have M:=O3.out;have L:=O4.out;have p1:=aL (lo':=w) J tO;have p2:=aL (lo':=w) K tO;have p3:=aL (lo':=w) M tO;have p4:=aL (lo':=w) L tO;have e1:=jd (g:=g) (dF J M cB) rfl;have e2:=jd (g:=g) (dF K M cB) rfl;have e4:=jd (g:=g) (dF L M cB) rfl;refine bodyPost_ret (v:=.tuple #[.agg #[.int .i64 S.1.cap,.int .i64 S.1.sent,.int .i64 S.1.got,.int .i64 S.1.fin,.slice ya S.1.cells yc,.slice yb S.1.words yd,.slice (some ⟨g,0,none⟩) x.hands vg,.slice vh x.deals vi,.int .i64 (x.now+1)],.bool true]) Fj rfl ⟨⟨_,_,_,_,rfl,?_,?_,?_,?_⟩,by (repeat (first|with_reducible assumption|with_reducible refine bA ?_|with_reducible refine bD ?_|((with_reducible refine bS ?_ ?_);rotate_left;(focus ((try simp);(try omega))))|((with_reducible refine Ra ?_ ?_);rotate_left;(focus ((try simp);(try omega))))|((with_reducible refine PV ?_ ?_ ?_);rotate_left;(focus ((try simp);(try omega)));(focus ((try simp);(try omega))))))⟩
 ·show aF _ _ _ S.1.cells
  (repeat (first|with_reducible exact p1|with_reducible refine World.ownsRow.alloc ?_ _|with_reducible refine World.ownsRow.drew ?_|with_reducible refine xU ?_ e1|((with_reducible refine aV ?_ ?_ _);rotate_left;(focus (first|(refine own_ne J ?_;(try dsimp only);omega)|(refine dN J ?_;(try dsimp only);omega))))|((with_reducible refine fC ?_ ?_);rotate_left;(focus (first|(refine own_ne J ?_;(try dsimp only);omega)|(refine dN J ?_;(try dsimp only);omega))))))
 ·show aI _ _ _ S.1.words
  (repeat (first|with_reducible exact p2|with_reducible refine World.ownsRow.alloc ?_ _|with_reducible refine World.ownsRow.drew ?_|with_reducible refine xU ?_ e2|((with_reducible refine aV ?_ ?_ _);rotate_left;(focus (first|(refine own_ne K ?_;(try dsimp only);omega)|(refine dN K ?_;(try dsimp only);omega))))|((with_reducible refine fC ?_ ?_);rotate_left;(focus (first|(refine own_ne K ?_;(try dsimp only);omega)|(refine dN K ?_;(try dsimp only);omega))))))
 ·show dY _ _ _ (x.hands.set i _)
  (repeat (first|with_reducible exact p3|with_reducible refine World.ownsRow.alloc ?_ _|with_reducible refine World.ownsRow.drew ?_|with_reducible refine dY.set ?_ hi _|((with_reducible refine aV ?_ ?_ _);rotate_left;(focus (first|(refine own_ne M ?_;(try dsimp only);omega)|(refine dN M ?_;(try dsimp only);omega))))|((with_reducible refine fC ?_ ?_);rotate_left;(focus (first|(refine own_ne M ?_;(try dsimp only);omega)|(refine dN M ?_;(try dsimp only);omega))))))
 ·show gU _ _ _ x.deals
  (repeat (first|with_reducible exact p4|with_reducible refine World.ownsRow.alloc ?_ _|with_reducible refine World.ownsRow.drew ?_|with_reducible refine xU ?_ e4|((with_reducible refine aV ?_ ?_ _);rotate_left;(focus (first|(refine own_ne L ?_;(try dsimp only);omega)|(refine dN L ?_;(try dsimp only);omega))))|((with_reducible refine fC ?_ ?_);rotate_left;(focus (first|(refine own_ne L ?_;(try dsimp only);omega)|(refine dN L ?_;(try dsimp only);omega))))))
end
section
open Go.RowKit
attribute [local simp] dz
attribute [local go_sem ↓] dA dO dP jv bK
attribute [local go_sem] iG
theorem vK (x:Wo) (i:Nat) (X:i<x.hands.length) (a b d e:Option Addr) (p q r s:Nat) (w:World) (h1:gG w w a x.ch.cells) (z1:a=none→p=0) (h2:gI w w b x.ch.words) (Z:b=none→q=0) (h3:qX w w d x.hands) (V:uh w w e x.deals) (m1:x.ch.cells.length≤1099511627776) (m3:x.hands.length≤1099511627776) (m4:x.deals.length≤1099511627776) :
  Calls prog 75 #[oI x a b d e p q r s,.int .i64 i] w fun r' w'=>r'=.returned (.bool (lT x i))∧Below w w w':=by
 have H1:=aA h1;have H2:=aA h2;have H3:=aA h3;have H4:=aA V;have Z1:=aA z1;have Z2:=aA Z;clear h1 h2 h3 V z1 Z;obtain ⟨F,L,rfl,J,K⟩:∃ b o,d=some ⟨b,o,none⟩∧b<w.heap.size∧Hid (∀ i j,i<x.hands.length→j<14→w.cell? ⟨b,o+i*14+j,none⟩=some (fO x.hands i j)):=by
  rcases H3.out with U|U
  ·omega
  ·exact U
 have a0:∀ W:World,hp W F=hp w F→(nY (.pointer (some ⟨F,L+i*14,none⟩))).run prog W=.ok (.agg (aB (aJ x i))) W:=fun W e=>lJ _ fun j hj=>by rw [show (aB (aJ x i)).getD j (.int .i64 0)=fO x.hands i j by simp [fO,aJ],← K.out i j X hj];exact World.cell?_of_block e
 have a1:(0:Int)≤(i:Int):=tO;have a2:(i:Int)<(x.hands.length:Int):=tO;have T:=aA fun a b p q W M N O R=>J4 (fu x.ch (aJ x i)) x.ch (aJ x i) a b p q W M N O R (fun a b p q W M N O R=>qV x.ch (aJ x i) a b p q W M N O R)
 have a4:F<w.heap.size+1:=tO;have OH:F≠w.heap.size:=tO;have c0:w.cell? ⟨F,L+i*14,none⟩=some (.int .i64 (aJ x i).pos):=(K.out i 0 X tO).trans zI;unfold lT;by_cases G:(aJ x (i:Int)).pos=23
 ·rw [G] at c0
  go_enter func75,ntmps75
  go_wp2_with fail
  go_region_held3 (fun w'=>w'.cell? ⟨w,0,none⟩=some (.int .i64 x.ch.cap)∧w'.cell? ⟨w,1,none⟩=some (.int .i64 x.ch.sent)∧w'.cell? ⟨w,2,none⟩=some (.int .i64 x.ch.got)∧w'.cell? ⟨w,3,none⟩=some (.int .i64 x.ch.fin)∧w'.cell? ⟨w,4,none⟩=some (.slice a x.ch.cells p)∧w'.cell? ⟨w,5,none⟩=some (.slice b x.ch.words q)∧w'.cell? ⟨w,6,none⟩=some (.slice (some ⟨F,L,none⟩) x.hands r)∧hp w' F=hp w F∧w'.cell? ⟨F,L+i*14,none⟩=some (.int .i64 23))
   (first|(simp [*,go_sem]))
   (first|(go_at_call 126;refine (T.out a b p q _ ((H1.out.below zB).more tS) Z1.out ((H2.out.below zB).more tS) Z2.out).mono ?_;rintro _ Y ⟨rfl,I⟩;have H:Below w w Y:=bT zB I;have xb:=fun o=>I.cell (p:=⟨w,o,none⟩) cK;(simp [go_sem] at xb);have zb:hp Y F=hp w F:=H.block F J;have cb:=H.cell (p:=⟨F,L+i*14,none⟩) J;rw [c0] at cb))
  all_goals go_wp2
  all_goals exact bodyPost_ret (v:=.bool (gV (fu x.ch (aJ x i)))) (by simp [results,results75,go_sem]) rfl ⟨by simp [G],H⟩
 ·have a3:((aJ x (i:Int)).pos == 23)=false:=by simpa using G
  go_enter func75,ntmps75
  go_wp2_with fail
  go_region
  go_wp2;go_ret;exact ⟨by simp [G],zB⟩
end
end Go.Proofs.YtffhjmepfojhnaaGreat
