/-
  More of the reference model's steps of sending, on hands and channels that are kept whole; lists lie in memory and hold at most 2 ^ 40 elements.
-/
import Derived.Test.YtffhjmepfojhnaaGreatT18
import Derived.Test.YtffhjmepfojhnaaGreatT10
import Derived.Test.YtffhjmepfojhnaaGreatT05
import Derived.BigRegion
import Derived.Test.YtffhjmepfojhnaaGreatT20
import Derived.Test.YtffhjmepfojhnaaGreatT19
import Derived.Test.YtffhjmepfojhnaaGreatT01
set_option maxRecDepth 100000
set_option maxHeartbeats 4000000
set_option linter.unusedSimpArgs false
set_option linter.unusedVariables false
namespace Go.Proofs.YtffhjmepfojhnaaGreat
open _root_.Go.Proofs.Tryz
section
open Go.RowKit
attribute [local simp] dz
attribute [local go_sem ↓] dA fU dO gW dP gY dW fE bK eO
theorem Qi (c:Ch) (h:Ha) (a b:Option Addr) (p q:Nat) (w:World) (h1:gG w w a c.cells) (z1:a=none→p=0) (h2:gI w w b c.words) (z2:b=none→q=0) (hk:bC c h 1 8 1=true) (a6:h.pos=1) (hs:c.sent=40) :
  Calls prog 189 #[.agg (aH c (.slice a c.cells p) (.slice b c.words q)),.agg (aB h)] w fun r w'=>dU w w' (bE c h) r:=by
 have e:bE c h=done c (aM 4 0):=by simp [bE,hk,a6,vC,hs]
 rw [e];obtain ⟨k1,k2,_,_⟩:=cO hk;obtain ⟨n1,n2⟩:=fT k1;have m1:c.cells.length≤1099511627776:=tO;have m2:c.words.length≤1099511627776:=tO;have H1:=aA h1;have H2:=aA h2;have Z1:=aA z1;have Z2:=aA z2;have D:=aA fun v1 v2 W=>bV c (aM 4 0) v1 v2 w W
 generalize done c (aM 4 0)=x at *;clear h1 h2 z1 z2 e k1 k2 n1 n2;go_enter func189,ntmps189;go_wp2_with fail;refine aK w zB fun H=>?_;refine (eQ c h 1 8 1 a b p q _ (aT H1 H) (aT H2 H)).mono ?_;rintro _ w1 ⟨rfl,J⟩;obtain ⟨a7,U,G⟩:=gZ H J (b:=w);(try simp at U);(try simp [go_sem] at G);replace T:=fP G;clear G J H
 rw [hk];go_wp2_with fail;refine aK w zB fun H=>?_;refine (eT c a b p q _ (aT H1 H) Z1.out (aT H2 H) Z2.out m1 m2).mono ?_;rintro _ w2 ⟨⟨v1,v2,rfl,Z,o2⟩,K⟩;obtain ⟨a8,V,G⟩:=gZ H K (b:=w);(try simp at V);(first|simp [go_sem,T] at G|simp [go_sem] at G|skip);replace T:=fP G;clear G K H
 have d1:=mD Z (w+1+1+1+1);have d2:=mD o2 (w+1+1+1+1);have p1:=aL (lo':=w) Z tO;have p2:=aL (lo':=w) o2 tO;obtain ⟨a1,q1,rfl,_⟩:=Z.seg;obtain ⟨a2,q2,rfl,_⟩:=o2.seg;go_wp2_with fail
 go_region_with (first|((go_at_call 130;refine aK w zB fun H=>?_;refine aK w2 zB fun bk=>?_;refine (iy _ _ _).mono ?_;rintro _ w5 ⟨rfl,F⟩;have aa:=bT H F;have Y:=F.size;(try simp at Y);have G:=And.intro (hQ F (b:=w2)) <| And.intro (hQ F (b:=w+1+1+1)) <| And.intro (hQ F (b:=w+1+1)) <| And.intro (hQ F (b:=w+1)) <| hQ F (b:=w);(first|simp [go_sem,T] at G|simp [go_sem] at G|skip);replace T:=ng G;clear G;have I:=bT bk F;clear F H bk);have r1:=own_below p1 I;have r2:=own_below p2 I)|((go_at_call 198;refine aK w zB fun H=>?_;refine (D.out _ _ _ (zO r1 Z) (zO r2 o2)).mono ?_;rintro _ w3 ⟨⟨y1,y2,rfl,O,R,a0,a3⟩,L⟩;obtain ⟨a9,X,G⟩:=gZ H L (b:=w);(try simp at X);(first|simp [go_sem,T] at G|simp [go_sem] at G|skip);replace T:=fP G;clear G L H);obtain ⟨⟨M,N⟩,a4,a5⟩:=BI (w:=w) (w+1+1+1+1) a0 a3 d1 d2;obtain ⟨ya,yp,rfl,_⟩:=O.seg;obtain ⟨yb,yq,rfl,_⟩:=R.seg))
 all_goals go_wp2
 all_goals (refine rE results189 rfl (bN x.1 (.slice ya x.1.cells yp) (.slice yb x.1.words yq) tY) rfl (aQ x.2.1 tY) ⟨⟨_,_,rfl,?_,?_,a4,a5⟩,zB⟩)
 all_goals (first|exact zP O O M|skip)
 all_goals (first|exact zP R R N|skip)
theorem wU (c:Ch) (v:Int) (a b:Option Addr) (p q:Nat) (w:World) :
    Calls prog 124 #[.agg (aH c (.slice a c.cells p) (.slice b c.words q)),.int .i64 v] w fun r w'=>r=.returned (.bool (jR c v))∧Below w w w':=xL c v a b p q w
theorem Qj (c:Ch) (h:Ha) (v1 v2:Value) (lo:Nat) (w:World) (h1:aF w lo v1 c.cells) (h2:aI w lo v2 c.words) (aa:1≤h.mine) (ab:h.mine≤c.words.length) (L:c.words.length≤80) (hs:dH c h.mine=0) :
    ed 212 c h v1 v2 lo w (j5 c h):=by
  obtain ⟨j,hj⟩:∃ j:Nat,h.mine=(j:Int)+1:=⟨(h.mine - 1).toNat,by omega⟩;have I:j<c.words.length:=tO;have J:dH c h.mine=c.words.getD j 0:=by simp [dH,hj]
  have e:j5 c h=(c,h,false):=by simp [j5,hs]
  rw [e];rw [J] at hs;have R:=nC h1;have T:=nC h2;have F:=sH R;have G:=sH T;have ac:=F (w.heap.size) tO;have ag:=G (w.heap.size) tO;have ad:=F (w+1) tO;have ah:=G (w+1) tO;have ae:=F (w+1+1) tO;have ai:=G (w+1+1) tO;have af:=F (w+1+1+1) tO;have aj:=G (w+1+1+1) tO;have N:=h1;have K:=h2;obtain ⟨O,q1,U,_⟩:=h1.seg;obtain ⟨a2,q2,V,_⟩:=h2.seg;subst U V;clear h1 h2 e;go_enter func212,ntmps212;obtain ⟨g,cap,M,a8,a9,H,_⟩:=K.open1 I
  simp at M;obtain ⟨rfl,rfl⟩:=M;generalize c.words.getD j 0=y at *;have a6:(0:Int)≤(j:Int):=tO;have a7:(j:Int)<(c.words.length:Int):=tO;have X:g≠w.heap.size:=tO;have Y:g≠w.heap.size+1:=tO;have Z:g≠w.heap.size+1+1:=tO;have a0:g≠w.heap.size+1+1+1:=tO;have a3:g<w.heap.size+1:=tO;have a4:g<w.heap.size+1+1:=tO;have a5:g<w.heap.size+1+1+1:=tO;go_wp2_with fail
  go_region
  all_goals go_wp2
  all_goals (refine rE results212 rfl (bN c (.slice O c.cells q1) (.slice (some ⟨g,0,none⟩) c.words q2) tY) rfl (aQ h tY) ⟨⟨_,_,rfl,?_,?_,aP _ _,aP _ _⟩,gy zB⟩)
  all_goals first|(show aF _ _ _ c.cells;exact zO N N)|skip
  all_goals first|(show aI _ _ _ c.words;exact zO K K)|skip
theorem Qk (c:Ch) (h:Ha) (v1 v2:Value) (lo:Nat) (w:World) (h1:aF w lo v1 c.cells) (h2:aI w lo v2 c.words) (ae:1≤h.mine) (af:h.mine≤c.words.length) (a0:c.words.length≤80) (hs:(dH c h.mine == 0)=false) (J:(dH c h.mine == 2)=false) (L:(h.code == 1)=true) :
    ed 212 c h v1 v2 lo w (j5 c h):=by
  obtain ⟨j,hj⟩:∃ j:Nat,h.mine=(j:Int)+1:=⟨(h.mine - 1).toNat,by omega⟩;have U:j<c.words.length:=tO;have V:dH c h.mine=c.words.getD j 0:=by simp [dH,hj]
  have e:j5 c h=done c (aM 1 0):=by simp at hs J L;simp [j5,hs,J,L]
  rw [e];rw [V] at hs J;have D:=aA fun W=>bV c (aM 1 0) v1 v2 lo W
  generalize done c (aM 1 0)=x at *;have b1:=nC h1;have b2:=nC h2;have O:=sH b1;have R:=sH b2;have ag:=O (w.heap.size) tO;have ak:=R (w.heap.size) tO;have ah:=O (w+1) tO;have al:=R (w+1) tO;have ai:=O (w+1+1) tO;have am:=R (w+1+1) tO;have aj:=O (w+1+1+1) tO;have an:=R (w+1+1+1) tO;have o1:=h1;have X:=h2;obtain ⟨a1,q1,e1,_⟩:=h1.seg;obtain ⟨a2,q2,e2,_⟩:=h2.seg;subst e1 e2;clear h1 h2 e;go_enter func212,ntmps212
  obtain ⟨g,cap,hv,ac,ad,T,_⟩:=X.open1 U;simp at hv;obtain ⟨rfl,rfl⟩:=hv;generalize c.words.getD j 0=y at *;have aa:(0:Int)≤(j:Int):=tO;have ab:(j:Int)<(c.words.length:Int):=tO;have a3:g≠w.heap.size:=tO;have a4:g≠w.heap.size+1:=tO;have a5:g≠w.heap.size+1+1:=tO;have a6:g≠w.heap.size+1+1+1:=tO;have a7:g<w.heap.size+1:=tO;have a8:g<w.heap.size+1+1:=tO;have a9:g<w.heap.size+1+1+1:=tO;go_wp2_with fail;refine aK w zB fun K=>?_;refine (iy _ _ _).mono ?_;rintro _ w4 ⟨rfl,H⟩;obtain ⟨F,N,I⟩:=gZ K H (b:=w);(try simp at N);(try simp [go_sem] at I);replace Y:=fP I;clear I H K
  have s1:=own_below o1 F;have s2:=own_below X F;go_wp2_with fail;refine aK w zB fun K=>?_;refine (D.out _ (zO s1 o1) (zO s2 X)).mono ?_;rintro _ w3 ⟨⟨y1,y2,rfl,jF,jG,nQ,ny⟩,G⟩;obtain ⟨Z,M,I⟩:=gZ K G (b:=w);(try simp at M);(first|simp [go_sem,Y] at I|simp [go_sem] at I|skip);replace Y:=fP I;clear I G K
  exact Uy
theorem Du (c:Ch) (h:Ha) (v1 v2:Value) (lo:Nat) (w:World) (h1:aF w lo v1 c.cells) (h2:aI w lo v2 c.words) (ad:1≤h.mine) (ae:h.mine≤c.words.length) (Z:c.words.length≤80) (hs:(dH c h.mine == 0)=false) :
    (∀ (F:(dH c h.mine == 2)=true),Calls prog 212 #[.agg (aH c v1 v2),.agg (aB h)] w fun r w'=>eB w w' lo v1 v2 (j5 c h) r) ∧
    (∀ (F:(dH c h.mine == 2)=false) (H:(h.code == 1)=false),Calls prog 212 #[.agg (aH c v1 v2),.agg (aB h)] w fun r w'=>eB w w' lo v1 v2 (j5 c h) r):=by
  constructor
  case' left =>
    intro F;have L:Hid (0=0):=rfl
  case' right =>
    intro F H;have M:Hid (0=0):=rfl
  all_goals
    obtain ⟨j,O⟩:∃ j:Nat,h.mine=(j:Int)+1:=⟨(h.mine - 1).toNat,by omega⟩;have R:j<c.words.length:=tO;have T:dH c h.mine=c.words.getD j 0:=by simp [dH,O]
    first
    | (replace L:=L;have e:j5 c h=done c ({ h with pos:=25,mine:=(j:Int)+1 }):=by rw [← O];simp at hs F;simp [j5,F])
    | (replace M:=M;have e:j5 c h=done c ({ h with pos:=24,mine:=(j:Int)+1 }):=by rw [← O];simp at hs F H;simp [j5,hs,F,H])
    rw [e];rw [T] at hs F
    first
    | (replace L:=L
       have D:=aA fun W=>bV c ({ h with pos:=25,mine:=(j:Int)+1 }) v1 v2 lo W
       generalize done c ({ h with pos:=25,mine:=(j:Int)+1 })=x at *)
    | (replace M:=M
       have D:=aA fun W=>bV c ({ h with pos:=24,mine:=(j:Int)+1 }) v1 v2 lo W
       generalize done c ({ h with pos:=24,mine:=(j:Int)+1 })=x at *)
    have b1:=nC h1;have b2:=nC h2;have J:=sH b1;have K:=sH b2;have af:=J (w.heap.size) tO;have aj:=K (w.heap.size) tO;have ag:=J (w+1) tO;have ak:=K (w+1) tO;have ah:=J (w+1+1) tO;have al:=K (w+1+1) tO;have ai:=J (w+1+1+1) tO;have am:=K (w+1+1+1) tO;have o1:=h1;have U:=h2;obtain ⟨a1,q1,e1,_⟩:=h1.seg;obtain ⟨a2,q2,e2,_⟩:=h2.seg;subst e1 e2;clear h1 h2 e;go_enter func212,ntmps212;obtain ⟨g,cap,hv,ab,ac,N,_⟩:=U.open1 R
    simp at hv;obtain ⟨rfl,rfl⟩:=hv;generalize c.words.getD j 0=y at *;have a9:(0:Int)≤(j:Int):=tO;have aa:(j:Int)<(c.words.length:Int):=tO;have a0:g≠w.heap.size:=tO;have a3:g≠w.heap.size+1:=tO;have a4:g≠w.heap.size+1+1:=tO;have a5:g≠w.heap.size+1+1+1:=tO;have a6:g<w.heap.size+1:=tO;have a7:g<w.heap.size+1+1:=tO;have a8:g<w.heap.size+1+1+1:=tO;go_wp2_with fail;refine aK w zB fun X=>?_;refine (D.out _ (zO o1 o1) (zO U U)).mono ?_;rintro _ w3 ⟨⟨y1,y2,rfl,jF,jG,nQ,ny⟩,G⟩;obtain ⟨Y,I,V⟩:=gZ X G (b:=w);(try simp at I);(try simp [go_sem] at V);replace bX:=fP V;clear V G X
    exact Uy
theorem Ql (c:Ch) (h:Ha) (v1 v2:Value) (lo:Nat) (w:World) (h1:aF w lo v1 c.cells) (h2:aI w lo v2 c.words) (G:1≤h.mine) (H:h.mine≤c.words.length) (F:c.words.length≤80) (hs:(dH c h.mine == 0)=false) (I:(dH c h.mine == 2)=true) :
    Calls prog 212 #[.agg (aH c v1 v2),.agg (aB h)] w fun r w'=>eB w w' lo v1 v2 (j5 c h) r:=(Du c h v1 v2 lo w h1 h2 G H F hs).1 I
theorem Qm (c:Ch) (h:Ha) (v1 v2:Value) (lo:Nat) (w:World) (h1:aF w lo v1 c.cells) (h2:aI w lo v2 c.words) (G:1≤h.mine) (H:h.mine≤c.words.length) (F:c.words.length≤80) (hs:(dH c h.mine == 0)=false) (I:(dH c h.mine == 2)=false) (J:(h.code == 1)=false) :
    Calls prog 212 #[.agg (aH c v1 v2),.agg (aB h)] w fun r w'=>eB w w' lo v1 v2 (j5 c h) r:=(Du c h v1 v2 lo w h1 h2 G H F hs).2 I J
theorem JM (c:Ch) (h:Ha) (v1 v2:Value) (lo:Nat) (w:World) (h1:aF w lo v1 c.cells) (h2:aI w lo v2 c.words) (G:1≤h.mine) (H:h.mine≤c.words.length) (F:c.words.length≤80) :
    ed 212 c h v1 v2 lo w (j5 c h):=by
  by_cases I:dH c h.mine=0
  · exact Qj c h v1 v2 lo w h1 h2 G H F I
  · by_cases J:dH c h.mine=2
    · exact Ql c h v1 v2 lo w h1 h2 G H F wT yw
    · by_cases K:h.code=1
      · exact Qk c h v1 v2 lo w h1 h2 G H F wT yw (by simpa using K)
      · exact Qm c h v1 v2 lo w h1 h2 G H F wT yw (by simpa using K)
theorem Qn (c:Ch) (h:Ha) (a b:Option Addr) (p q:Nat) (w:World) (h1:gG w w a c.cells) (z1:a=none→p=0) (h2:gI w w b c.words) (z2:b=none→q=0) (hk:bC c h 1 8 1=true) (a0:h.pos=3) (ht:(kZ c h).2=true) :
  Calls prog 189 #[.agg (aH c (.slice a c.cells p) (.slice b c.words q)),.agg (aB h)] w fun r w'=>dU w w' (bE c h) r:=by
 have e:bE c h=done c (kZ c h).1:=by simp [bE,hk,a0,vD,ht]
 rw [e];obtain ⟨V,X,_,_⟩:=cO hk;obtain ⟨n1,n2⟩:=fT V;have m1:c.cells.length≤1099511627776:=tO;have m2:c.words.length≤1099511627776:=tO;have H1:=aA h1;have H2:=aA h2;have Z1:=aA z1;have Z2:=aA z2;obtain ⟨c1,c2⟩:=iW X;have K:=fun W x1=>Aw c h a b p q W x1 c1 tO
 rw [ht] at K;have D:=aA fun v1 v2 W=>bV c (kZ c h).1 v1 v2 w W
 generalize done c (kZ c h).1=x at *;generalize (kZ c h).1=y at *;replace K:=aA K;clear h1 h2 z1 z2 e V X n1 n2;go_enter func189,ntmps189;go_wp2_with fail;refine aK w zB fun H=>?_;refine (eQ c h 1 8 1 a b p q _ (aT H1 H) (aT H2 H)).mono ?_;rintro _ w1 ⟨rfl,J⟩;obtain ⟨a3,O,G⟩:=gZ H J (b:=w);(try simp at O);(try simp [go_sem] at G);replace N:=fP G;clear G J H
 rw [hk];go_wp2_with fail;refine aK w zB fun H=>?_;refine (eT c a b p q _ (aT H1 H) Z1.out (aT H2 H) Z2.out m1 m2).mono ?_;rintro _ w2 ⟨⟨v1,v2,rfl,Y,Z⟩,L⟩;obtain ⟨a4,R,G⟩:=gZ H L (b:=w);(try simp at R);(first|simp [go_sem,N] at G|simp [go_sem] at G|skip);replace N:=fP G;clear G L H
 obtain ⟨k0,V,X,k3⟩:=pz (a:=w) (b:=w2);have d1:=mD Y (w+1+1+1+1);have d2:=mD Z (w+1+1+1+1);have p1:=aL (lo':=w) Y tO;have p2:=aL (lo':=w) Z tO;obtain ⟨a1,q1,rfl,_⟩:=Y.seg;obtain ⟨a2,q2,rfl,_⟩:=Z.seg;go_wp2_with fail;refine aK w zB fun H=>?_;refine aK w2 zB fun bk=>?_;refine (K.out _ (aT H1 H)).mono ?_;rintro _ w3 ⟨rfl,F⟩;have a5:=bT H F;have T:=F.size;(try simp at T);have G:=And.intro (hQ F (b:=w2)) <| And.intro (hQ F (b:=w+1+1+1)) <| And.intro (hQ F (b:=w+1+1)) <| And.intro (hQ F (b:=w+1)) <| hQ F (b:=w);(first|simp [go_sem,N,k0,V,X,k3] at G|simp [go_sem] at G|skip);replace N:=ng G;clear G;have I:=bT bk F;clear F H bk
 have s1:=own_below p1 I;have s2:=own_below p2 I;go_wp2_with fail;refine aK w zB fun H=>?_;refine (D.out _ _ _ (zO s1 Y) (zO s2 Z)).mono ?_;rintro _ w5 ⟨⟨y1,y2,rfl,jF,jG,nQ,ny⟩,M⟩;obtain ⟨a6,U,G⟩:=gZ H M (b:=w);(try simp at U);(first|simp [go_sem,N,k0,V,X,k3] at G|simp [go_sem] at G|skip);replace N:=fP G;clear G M H
 exact Lm
theorem Qo (c:Ch) (h:Ha) (a b:Option Addr) (p q:Nat) (w:World) (h1:gG w w a c.cells) (z1:a=none→p=0) (h2:gI w w b c.words) (z2:b=none→q=0) (Y:bC c h 1 8 1=true) (Z:h.pos=3) (ht:(kZ c h).2=false) :
  Calls prog 189 #[.agg (aH c (.slice a c.cells p) (.slice b c.words q)),.agg (aB h)] w fun r w'=>dU w w' (bE c h) r:=by
 have e:bE c h=nothing:=by simp [bE,Y,Z,vD,ht]
 rw [e];obtain ⟨U,V,_,_⟩:=cO Y;obtain ⟨n1,n2⟩:=fT U;have m1:c.cells.length≤1099511627776:=tO;have m2:c.words.length≤1099511627776:=tO;have X:=aA h1;have H2:=aA h2;have Z1:=aA z1;have Z2:=aA z2;obtain ⟨c1,c2⟩:=iW V;have K:=fun W x1=>Aw c h a b p q W x1 c1 tO
 rw [ht] at K;have D:=aA fun W=>jL W w (.slice none 0 0) (.slice none 0 0)
 generalize nothing=x at *;replace K:=aA K;clear h1 h2 z1 z2 e U V n1 n2;go_enter func189,ntmps189;go_wp2_with fail;refine aK w zB fun H=>?_;refine (eQ c h 1 8 1 a b p q _ (aT X H) (aT H2 H)).mono ?_;rintro _ w1 ⟨rfl,I⟩;obtain ⟨a0,N,G⟩:=gZ H I (b:=w);(try simp at N);(try simp [go_sem] at G);replace M:=fP G;clear G I H
 rw [Y];go_wp2_with fail;refine aK w zB fun H=>?_;refine (eT c a b p q _ (aT X H) Z1.out (aT H2 H) Z2.out m1 m2).mono ?_;rintro _ w2 ⟨⟨v1,v2,rfl,o1,o2⟩,J⟩;obtain ⟨a3,O,G⟩:=gZ H J (b:=w);(try simp at O);(first|simp [go_sem,M] at G|simp [go_sem] at G|skip);replace M:=fP G;clear G J H
 obtain ⟨k0,U,V,k3⟩:=pz (a:=w) (b:=w2);have d1:=mD o1 (w+1+1+1+1);have d2:=mD o2 (w+1+1+1+1);have p1:=aL (lo':=w) o1 tO;have p2:=aL (lo':=w) o2 tO;obtain ⟨a1,q1,rfl,_⟩:=o1.seg;obtain ⟨a2,q2,rfl,_⟩:=o2.seg;go_wp2_with fail;refine aK w zB fun H=>?_;refine aK w2 zB fun bk=>?_;refine (K.out _ (aT X H)).mono ?_;rintro _ w3 ⟨rfl,F⟩;have a4:=bT H F;have R:=F.size;(try simp at R);have G:=And.intro (hQ F (b:=w2)) <| And.intro (hQ F (b:=w+1+1+1)) <| And.intro (hQ F (b:=w+1+1)) <| And.intro (hQ F (b:=w+1)) <| hQ F (b:=w);(first|simp [go_sem,M,k0,U,V,k3] at G|simp [go_sem] at G|skip);replace M:=ng G;clear G;have a6:=bT bk F;clear F H bk
 clear d1 d2;have d1:∀ j,(Value.slice none 0 0).ownBlock=some j→w.heap.size+1+1+1+1≤j:=fun j hj=>by cases hj
 have d2:=d1;go_wp2_with fail;refine aK w zB fun H=>?_;refine (D.out _).mono ?_;rintro _ w5 ⟨⟨y1,y2,rfl,jF,jG,nQ,ny⟩,L⟩;obtain ⟨a5,T,G⟩:=gZ H L (b:=w);(try simp at T);(first|simp [go_sem,M,k0,U,V,k3] at G|simp [go_sem] at G|skip);replace M:=fP G;clear G L H
 exact Lm
end
section
open Go.RowKit
def KX (x:Wo) (v1 v2 v3 v4:Value):Array Value:=#[.int .i64 x.ch.cap,.int .i64 x.ch.sent,.int .i64 x.ch.got,.int .i64 x.ch.fin,v1,v2,v3,v4,.int .i64 x.now]
theorem VG (x:Wo) (v1 v2 v3 v4:Value):(KX x v1 v2 v3 v4=#[])=False:=by simp [KX]
theorem Tm (x:Wo) (v1 v2 v3 v4:Value):(KX x v1 v2 v3 v4).size=9:=rfl
theorem VH (w:World):(isAgg 35).run prog w=.ok true w:=by simp [isAgg,go_sem]
theorem Vj (w:World):(isAgg 68).run prog w=.ok true w:=by simp [isAgg,go_sem]
theorem WE (w:World):(sizeOf 35).run prog w=.ok 9 w:=by simp [go_sem]
theorem VI (w:World):(sizeOf 68).run prog w=.ok 9 w:=by simp [go_sem]
variable {w:World} {b:Nat}
def WN (x:Value):Sem Value:=Instr.loadAt 35 x
def VJ (x:Value):Sem Value:=Instr.loadAt 68 x
theorem Vk (h:okO 9 (hp w b)=true):(WN (.pointer (some ⟨b,0,none⟩))).run prog w=.ok (.agg (kU (hp w b))) w:=by
 simp only [WN,Instr.loadAt,Instr.sureAddr,Sem.run_bind,Sem.run_pure,Result.andThen_ok,qG VH WE h]
theorem Tn (h:okO 9 (hp w b)=true):(VJ (.pointer (some ⟨b,0,none⟩))).run prog w=.ok (.agg (kU (hp w b))) w:=by
 simp only [VJ,Instr.loadAt,Instr.sureAddr,Sem.run_bind,Sem.run_pure,Result.andThen_ok,qG Vj VI h]
def pJ (x:Wo) (a b d e:Option Addr) (p1 p2 p3 p4:Nat):Prop:=(a=none→p1=0)∧(b=none→p2=0)∧(d=none→x.hands.length=0∧p3=0)∧(e=none→x.deals.length=0∧p4=0)
attribute [go_sem] Vk Tn VG Tm
end
section
theorem GY {hs hs':List Ha} {g g':Gh} (len:hs'.length=hs.length) (hr:∀ i n,i<hs.length→(rc (aD hs' i)=some n↔rc (aD hs i)=some n)) (rp:∀ n,(g'.lc n).rp=(g.lc n).rp) (n:Nat):UE hs' g' n↔UE hs g n:=by
 unfold UE;rw [rp,len];constructor
 ·rintro (h|⟨h1,h2⟩)
  ·exact .inl h
  ·exact .inr ⟨h1,fun i F e=>h2 i F ((hr i n F).2 e)⟩
 ·rintro (h|⟨h1,h2⟩)
  ·exact .inl h
  ·exact .inr ⟨h1,fun i F e=>h2 i F ((hr i n F).1 e)⟩
theorem wE.ask {x:Wo} {g:Gh} {D E:List Nat} (H:wE x g D E) {i:Nat} {h':Ha} {now:Int} (F:i<x.hands.length) (p:(aD x.hands i).pos=0) (h:(h'.code=1∧h'.pos=1)∨(h'.code=2∧h'.pos=9)):wE ⟨x.ch,x.hands.set i h',x.deals,now⟩ g D E:=by
 have r':rc h'=none:=by
  rcases h with h|h
  ·exact jr h.1
  ·exact iO tO
 refine ⟨H.q.ask F p h,H.dn,H.de,H.dm,H.en,fun n=>?_,H.em,H.esp⟩;rw [H.ee]
 have:=GY (hs:=x.hands) (hs':=x.hands.set i h') (g:=g) (g':=g) List.length_set (fun j m G=>by
  rw [dI h' F];by_cases e:i=j
  ·subst e
   rw [if_pos rfl,r',iO tO]
  ·rw [if_neg e]) (fun _=>rfl) n
 exact ⟨fun ⟨a,b⟩=>⟨a,this.2 b⟩,fun ⟨a,b⟩=>⟨a,this.1 b⟩⟩
theorem wE.stop {x:Wo} {g:Gh} {D E:List Nat} (H:wE x g D E) {i:Nat} (I:i<x.hands.length) (p:(aD x.hands i).pos=23):∃ g',wE { x with ch:=cZ x.ch (aD x.hands i).mine 2 } g' D E∧g'.el=g.el∧∀ n,(g'.lc n).sp=(g.lc n).sp∧(g'.lc n).rp=(g.lc n).rp:=by
 obtain ⟨g',K,G,F⟩:=H.q.stop I p;refine ⟨g',⟨K,H.dn,fun n=>?_,?_,H.en,fun n=>?_,?_,fun n J h=>?_⟩,G,F⟩
 ·rw [H.de,(F n).1]
 ·rw [G];exact H.dm
 ·rw [H.ee]
  have:=GY (hs:=x.hands) (hs':=x.hands) (g:=g) (g':=g') rfl (fun _ _ _=>Iff.rfl) (fun n=>(F n).2) n;exact ⟨fun ⟨a,b⟩=>⟨a,this.2 b⟩,fun ⟨a,b⟩=>⟨a,this.1 b⟩⟩
 ·rw [G];exact H.em
 ·rw [(F n).2] at h
  rw [(F n).1];exact H.esp n J h
theorem wE.new (cap n:Nat) (hc:cap≤4):∃ g,wE ⟨⟨cap,0,0,cap,List.replicate 40 C3.zero,[]⟩,List.replicate n (aM 0 0),[],0⟩ g [] []:=by
 refine ⟨_,Q.new cap n hc,List.nodup_nil,fun m=>?_,rfl,List.nodup_nil,fun m=>?_,rfl,fun m _ h=>?_⟩
 ·constructor
  ·intro h;cases h
  ·rintro ⟨_,h⟩
   by_cases e:m<cap <;> simp [e] at h
 ·constructor
  ·intro h;cases h
  ·rintro ⟨_,h|⟨h,_⟩⟩ <;> by_cases e:m<cap <;> simp [e] at h
 ·by_cases e:m<cap <;> simp [e] at h
def JN (g:Gh):List Nat:=(List.range 40).filter fun n=>(g.lc n).s == 2
theorem MS {c:Ch} {hs:List Ha} {g:Gh} (q:Q c hs g) (hc:aN c=true):keptIn c=(JN g).map g.el:=by
 have A:∀ (cs:List C3) (k:Nat),kT 2 k cs=((List.range cs.length).filter fun j=>(cs.getD j ⟨0,0,0⟩).s == 2).map fun j=>((k+j:Nat):Int):=by
  intro cs;induction cs with
  | nil=>intro k;rfl
  | cons c cs ih =>
   intro k;have e:(List.range (c :: cs).length)=0 :: (List.range cs.length).map (·+1):=by
    rw [List.length_cons,List.range_succ_eq_map]
   rw [e];unfold kT;rw [ih (k+1)];simp only [List.filter_cons,List.filter_map,List.map_map];by_cases h:c.s == 2
   ·rw [if_pos h,if_pos (by simpa using h)]
    simp only [List.map_cons,List.map_map];congr 1;apply List.map_congr_left;intro j _;simp only [Function.comp];omega
   ·rw [if_neg h,if_neg (by simpa using h),List.map_map]
    apply List.map_congr_left;intro j _;simp only [Function.comp];omega
 unfold keptIn BK;rw [if_pos hc,A c.cells 0,q.len,List.map_map];unfold JN;have F:((List.range 40).filter fun j=>(c.cells.getD j ⟨0,0,0⟩).s == 2)=(List.range 40).filter fun n=>(g.lc n).s == 2:=by
  apply List.filter_congr;intro j H;have:=(q.cell j (List.mem_range.1 H)).s;unfold aY at this;rw [this];cases h:((g.lc j).s == 2) with
  | true=>simp at h;simp [h]
  | false=>simp at h;simp;omega
 rw [F];apply List.map_congr_left;intro j H;obtain ⟨I,J⟩:=List.mem_filter.1 H;have G:=List.mem_range.1 I;have K:(g.lc j).s=2:=by simpa using J
 have cl:=q.cell j G;obtain ⟨a,b⟩:=(q.way j G).f_el (.inl K);have:=cl.e a b;unfold aY at this;simp only [Function.comp,Nat.zero_add,Int.toNat_natCast];exact this
end
section
inductive Mk where
 | no:Mk
 | s (n:Nat):Mk
 | r (n:Nat):Mk
def Mk.ok (g:Gh) (ts tr:Nat→Int) (d:De):Mk→Prop
 | .no=>d.reply≠1∧d.reply≠2
 | .s n=>d.reply=1∧d.elem=g.el n∧d.beg≤ts n∧ts n≤d.fin
 | .r n=>d.reply=2∧d.out=g.el n∧d.beg≤tr n∧tr n≤d.fin∧ts n≤d.fin
def Mk.sl:Mk→List Nat
 | .s n=>[n]
 | _=>[]
def Mk.rl:Mk→List Nat
 | .r n=>[n]
 | _=>[]
structure JO (x:Wo) (g:Gh) (D E:List Nat) (ts tr:Nat→Int) (P:List (De × Mk)):Prop where
 pd:P.map Prod.fst=x.deals
 pD:P.flatMap (fun p=>p.2.sl)=D
 pE:P.flatMap (fun p=>p.2.rl)=E
 pk:∀ p,p ∈ P→p.2.ok g ts tr p.1
 tb:∀ n,n<40→(g.lc n).sp≠0→ts n≤x.now
 rb:∀ n,n<40→(g.lc n).rp≠0→tr n≤x.now
 tm:∀ n m,n≤m→m<40→(g.lc m).sp≠0→ts n≤ts m
 rm:∀ n m,n≤m→m<40→(g.lc m).rp≠0→tr n≤tr m
 ht:∀ i n,i<x.hands.length→sc (aD x.hands i)=some n→(aD x.hands i).beg≤ts n
 hr:∀ i n,i<x.hands.length→rc (aD x.hands i)=some n→(aD x.hands i).beg≤tr n
theorem Mk.ok_same {g g':Gh} {ts tr F G:Nat→Int} {d:De} {k:Mk} (h:k.ok g ts tr d) (hs:∀ n,n ∈ k.sl→F n=ts n∧g'.el n=g.el n) (hr:∀ n,n ∈ k.rl→G n=tr n∧F n=ts n∧g'.el n=g.el n):k.ok g' F G d:=by
 cases k with
 | no=>exact h
 | s n =>
  obtain ⟨a,b⟩:=hs n (by simp [Mk.sl]);obtain ⟨h1,h2,h3,H⟩:=h;exact ⟨h1,by rw [b];exact h2,by rw [a];exact h3,by rw [a];exact H⟩
 | r n =>
  obtain ⟨a,b,c⟩:=hr n (by simp [Mk.rl]);obtain ⟨h1,h2,h3,H,I⟩:=h;exact ⟨h1,by rw [c];exact h2,by rw [a];exact h3,by rw [a];exact H,by rw [b];exact I⟩
theorem JO.step {x y:Wo} {g g':Gh} {D E U V:List Nat} {ts tr:Nat→Int} {P:List (De × Mk)} {i:Nat} {h':Ha} {ev:Ev} (T:JO x g D E ts tr P) (H:wE x g D E) (H':wE y g' U V) (Y:i<x.hands.length)
  (N:Nx g g' (aD x.hands i) h' ev) (A:Add x y i g' D E U V) (hn:y.now=x.now+1) (hh:y.hands=x.hands.set i h') (hb:h'.beg=(aD x.hands i).beg∨h'.beg=0) (b0:0≤(aD x.hands i).beg) (b1:(aD x.hands i).beg≤x.now):∃ G F P',JO y g' U V G F P':=by
 obtain ⟨G,a7⟩:∃ f:Nat→Int,∀ n,f n=if (g.lc n).sp=0 then x.now+1 else ts n:=⟨_,fun _=>rfl⟩
 obtain ⟨F,a6⟩:∃ f:Nat→Int,∀ n,f n=if (g.lc n).rp=0 then x.now+1 else tr n:=⟨_,fun _=>rfl⟩
 have R:∀ n,(g.lc n).sp≠0→G n=ts n:=fun n h=>by rw [a7,if_neg h]
 have ro:∀ n,(g.lc n).rp≠0→F n=tr n:=fun n h=>by rw [a6,if_neg h]
 have sn:∀ n,(g.lc n).sp=0→G n=x.now+1:=fun n h=>by rw [a7,if_pos h]
 have rn:∀ n,(g.lc n).rp=0→F n=x.now+1:=fun n h=>by rw [a6,if_pos h]
 have sb:∀ n,n<40→G n≤x.now+1:=fun n I=>by
  by_cases e:(g.lc n).sp=0
  ·rw [sn n e];omega
  ·rw [R n e];have:=T.tb n I e;omega
 have rb:∀ n,n<40→F n≤x.now+1:=fun n I=>by
  by_cases e:(g.lc n).rp=0
  ·rw [rn n e];omega
  ·rw [ro n e];have:=T.rb n I e;omega
 have hand:∀ j,aD y.hands j=if i=j then h' else aD x.hands j:=fun j=>by rw [hh,dI h' Y]
 have len:y.hands.length=x.hands.length:=by rw [hh,List.length_set]
 have a8:∀ p,p ∈ P→p.2.ok g' G F p.1:=fun p hp=>by
  refine Mk.ok_same (T.pk p hp) ?_ ?_
  ·intro n I
   have m:n ∈ D:=by rw [← T.pD];exact List.mem_flatMap.2 ⟨p,hp,I⟩
   have s:=((H.de n).1 m).2;exact ⟨R n tO,N.el n tO⟩
  ·intro n I
   have m:n ∈ E:=by rw [← T.pE];exact List.mem_flatMap.2 ⟨p,hp,I⟩
   obtain ⟨a,b⟩:=(H.ee n).1 m;have r:(g.lc n).rp=70∨(g.lc n).rp=74:=by rcases b with b|b;exact .inr b;exact .inl b.1
   have s:=H.esp n a r;exact ⟨ro n tO,R n s,N.el n s⟩
 have O:∀ (Q':List (De × Mk)),Q'.map Prod.fst=y.deals→Q'.flatMap (fun p=>p.2.sl)=U→Q'.flatMap (fun p=>p.2.rl)=V→(∀ p,p ∈ Q'→p.2.ok g' G F p.1)→JO y g' U V G F Q':=by
  intro Q' K L J X;refine ⟨K,L,J,X,fun n I _=>?_,fun n I _=>?_,?_,?_,?_,?_⟩
  ·rw [hn];exact sb n I
  ·rw [hn];exact rb n I
  ·intro n m Z hm _
   by_cases e:(g.lc m).sp=0
   ·rw [sn m e];exact sb n tO
   ·have e2:(g.lc n).sp≠0:=by
     have a:=(H.q.cS m hm).1 e;exact (H.q.cS n tO).2 tO
    rw [R m e,R n e2];exact T.tm n m Z hm e
  ·intro n m Z hm _
   by_cases e:(g.lc m).rp=0
   ·rw [rn m e];exact rb n tO
   ·have e2:(g.lc n).rp≠0:=by
     have a:=(H.q.cR m hm).1 e;exact (H.q.cR n tO).2 tO
    rw [ro m e,ro n e2];exact T.rm n m Z hm e
  ·intro j n M e
   rw [len] at M;have a0:=(H'.q.hand j (by rw [len];exact M)).sc_at e;have e0:=e;rw [hand j] at e ⊢;by_cases ij:i=j
   ·rw [if_pos ij] at e ⊢
    by_cases z:(g.lc n).sp=0
    ·rw [sn n z];omega
    ·have aa:gJ (g.lc n).sp:=⟨z,by
      have:=a0.2.2;have:=N.ns n
      omega⟩
     obtain ⟨k,hk,ek⟩:=H.q.aS n a0.1 aa;by_cases ik:i=k
     ·subst ik
      rw [R n z];have:=T.ht i n Y ek;omega
     ·have a9:sc (aD y.hands k)=some n:=by rw [hand k,if_neg ik];exact ek
      exact absurd a9 (H'.q.us j k n (by rw [len];exact M) (by rw [len];exact hk) tO e0)
   ·rw [if_neg ij] at e ⊢
    rw [R n ((H.q.hand j M).sc_at e).2.1];exact T.ht j n M e
  ·intro j n M e
   rw [len] at M;rw [hand j] at e ⊢;by_cases ij:i=j
   ·rw [if_pos ij] at e ⊢
    by_cases z:(g.lc n).rp=0
    ·rw [rn n z];omega
    ·rw [ro n z]
     have:=T.hr i n Y ((N.cl n e).resolve_right z);omega
   ·rw [if_neg ij] at e ⊢
    rw [ro n ((H.q.hand j M).rc_at e).2];exact T.hr j n M e
 rcases A with ⟨K,L,J⟩|⟨d,d1,d2,d3,a⟩
 ·exact ⟨G,F,P,O P (by rw [K];exact T.pd) (by rw [L];exact T.pD) (by rw [J];exact T.pE) a8⟩
 ·have mk:∀ k:Mk,k.ok g' G F d→U=D ++ k.sl→V=E ++ k.rl→∃ G F P',JO y g' U V G F P':=fun k hk e1 e2=>by
   refine ⟨G,F,P ++ [(d,k)],O _ ?_ ?_ ?_ ?_⟩
   ·rw [List.map_append,T.pd,d1];rfl
   ·rw [List.flatMap_append,T.pD,e1];simp
   ·rw [List.flatMap_append,T.pE,e2];simp
   ·intro p hp
    rcases List.mem_append.1 hp with hp|hp
    ·exact a8 p hp
    ·simp at hp;subst hp;exact hk
  rcases a with ⟨K,L,J,X⟩|⟨n,K,L,J,X,a5⟩|⟨n,K,L,J,X,a5⟩
  ·exact mk .no ⟨J,X⟩ (by simp [K,Mk.sl]) (by simp [L,Mk.rl])
  ·have c:=(H.q.hand i Y).sc_at J
   have t:=R n c.2.1;have u:=T.ht i n Y J;have v:=T.tb n c.1 c.2.1;exact mk (.s n) ⟨X,a5,by omega,by omega⟩ (by simp [K,Mk.sl]) (by simp [L,Mk.rl])
  ·have c:=(H.q.hand i Y).rc_at J
   have t:=ro n c.2;have u:=T.hr i n Y J;have v:=T.rb n c.1 c.2;have w:=sb n c.1;exact mk (.r n) ⟨X,a5,by omega,by omega,by omega⟩ (by simp [K,Mk.sl]) (by simp [L,Mk.rl])
theorem JO.ask {x:Wo} {g:Gh} {D E:List Nat} {ts tr:Nat→Int} {P:List (De × Mk)} {i:Nat} {h':Ha} (T:JO x g D E ts tr P) (H:i<x.hands.length) (J:sc h'=none) (I:rc h'=none):JO ⟨x.ch,x.hands.set i h',x.deals,x.now+1⟩ g D E ts tr P:=by
 refine ⟨T.pd,T.pD,T.pE,T.pk,fun n a b=>?_,fun n a b=>?_,T.tm,T.rm,?_,?_⟩
 ·have:=T.tb n a b
  show ts n≤x.now+1;omega
 ·have:=T.rb n a b
  show tr n≤x.now+1;omega
 ·intro j n F e
  have F:j<x.hands.length:=by
   have:j<(x.hands.set i h').length:=F
   rwa [List.length_set] at this
  have e:sc (aD (x.hands.set i h') j)=some n:=e;show (aD (x.hands.set i h') j).beg≤ts n;rw [dI h' H] at e ⊢;by_cases G:i=j
  ·rw [if_pos G,J] at e;cases e
  ·rw [if_neg G] at e ⊢;exact T.ht j n F e
 ·intro j n F e
  have F:j<x.hands.length:=by
   have:j<(x.hands.set i h').length:=F
   rwa [List.length_set] at this
  have e:rc (aD (x.hands.set i h') j)=some n:=e;show (aD (x.hands.set i h') j).beg≤tr n;rw [dI h' H] at e ⊢;by_cases G:i=j
  ·rw [if_pos G,I] at e;cases e
  ·rw [if_neg G] at e ⊢;exact T.hr j n F e
theorem JO.stop {x:Wo} {c:Ch} {g g':Gh} {D E:List Nat} {ts tr:Nat→Int} {P:List (De × Mk)} (T:JO x g D E ts tr P) (G:g'.el=g.el) (F:∀ n,(g'.lc n).sp=(g.lc n).sp∧(g'.lc n).rp=(g.lc n).rp):JO { x with ch:=c } g' D E ts tr P:=by
 refine ⟨T.pd,T.pD,T.pE,fun p hp=>Mk.ok_same (T.pk p hp) (fun n _=>⟨rfl,by rw [G]⟩) (fun n _=>⟨rfl,rfl,by rw [G]⟩),fun n a b=>T.tb n a ?_,fun n a b=>T.rb n a ?_,fun n m a b d=>T.tm n m a b ?_,fun n m a b d=>T.rm n m a b ?_,T.ht,T.hr⟩
 ·rw [← (F n).1];exact b
 ·rw [← (F n).2];exact b
 ·rw [← (F m).1];exact d
 ·rw [← (F m).2];exact d
theorem JO.new {x:Wo} {g:Gh} (G:x.deals=[]) (F:∀ i,(aD x.hands i).pos=0) (hs:∀ n,n<40→(g.lc n).sp=0∧(g.lc n).rp=0):JO x g [] [] (fun _=>0) (fun _=>0) []:=by
 refine ⟨by rw [G];rfl,rfl,rfl,fun p hp=>(by cases hp),fun n a b=>absurd (hs n a).1 b,fun n a b=>absurd (hs n a).2 b,fun _ _ _ _ _=>Int.le_refl _,fun _ _ _ _ _=>Int.le_refl _,fun i n _ e=>?_,fun i n _ e=>?_⟩
 ·rw [mU (by rw [F i];omega)] at e;cases e
 ·rw [iO (by rw [F i];omega)] at e;cases e
end
section
open Go.RowKit
theorem KY (n cap:Nat) (a:Option Addr) (w:World):Calls prog 9 #[.slice a n cap] w fun r w'=>r=.returned (.bool (decide (4096<(n:Int))))∧w=w':=by
 go_enter func9,ntmps9
 go_wp2;go_ret;exact ⟨rfl,rfl⟩
end
end Go.Proofs.YtffhjmepfojhnaaGreat
