/-
  More steps of receiving of the reference model, on hands and channels that are kept whole; lists lie in memory and hold at most 2 ^ 40 elements.
-/
import Derived.Test.YtffhjmepfojhnaaGreatT18
import Derived.BigRegion
import Derived.Test.YtffhjmepfojhnaaGreatT10
import Derived.Deep.RegionLaw
import Derived.Test.YtffhjmepfojhnaaGreatT17
import Derived.Test.YtffhjmepfojhnaaGreatT07
import Derived.Test.YtffhjmepfojhnaaGreatT04
set_option maxRecDepth 100000
set_option maxHeartbeats 2000000
set_option linter.unusedSimpArgs false
set_option linter.unusedVariables false
namespace Go.Proofs.YtffhjmepfojhnaaGreat
open _root_.Go.Proofs.Tryz
section
open Go.RowKit
attribute [local simp] dz
attribute [local go_sem ↓] dA fU dO gW dP gY dW fE bK eO
theorem Qf (c:Ch) (h:Ha) (a b:Option Addr) (p q:Nat) (w:World) (h1:gG w w a c.cells) (z1:a=none→p=0) (h2:gI w w b c.words) (z2:b=none→q=0) (hk:bC c h 9 15 2=true) (ac:h.pos=14) :
  Calls prog 190 #[.agg (aH c (.slice a c.cells p) (.slice b c.words q)),.agg (aB h)] w fun r w'=>dU w w' (aO c h) r:=by
 obtain ⟨X,Y,_,_⟩:=cO hk;obtain ⟨n1,n2⟩:=fT X;have m1:c.cells.length≤1099511627776:=tO;have m2:c.words.length≤1099511627776:=tO;have H1:=aA h1;have H2:=aA h2;have Z1:=aA z1;have Z2:=aA z2;obtain ⟨c1,c2⟩:=iW Y;obtain ⟨i,ab⟩:∃ i:Nat,h.cell=(i:Int):=⟨h.cell.toNat,by omega⟩;have hi:i<c.cells.length:=tO;have e:aO c h=done (bZ c i 7) (dL h 0):=by simp [aO,hk,ac,ab]
 rw [e];have ST:=aA fun v1 v2 W=>mo c i 7 v1 v2 w W
 have D:=fun v1 v2 W=>bV (bZ c i 7) (dL h 0) v1 v2 w W
 simp only [nO,mH] at D;generalize done (bZ c i 7) (dL h 0)=x at *;replace D:=aA D;clear h1 h2 z1 z2 e X Y n1 n2 c1 c2;go_enter func190,ntmps190;go_wp2_with fail;refine aK w zB fun J=>?_;refine (eQ c h 9 15 2 a b p q _ (aT H1 J) (aT H2 J)).mono ?_;rintro _ w1 ⟨rfl,M⟩;obtain ⟨ad,a0,I⟩:=gZ J M (b:=w);(try simp at a0);(try simp [go_sem] at I);replace K:=fP I;clear I M J
 rw [hk];go_wp2_with fail;refine aK w zB fun J=>?_;refine (eT c a b p q _ (aT H1 J) Z1.out (aT H2 J) Z2.out m1 m2).mono ?_;rintro _ V ⟨⟨v1,v2,rfl,Z,o2⟩,N⟩;obtain ⟨ae,a3,I⟩:=gZ J N (b:=w);(try simp at a3);(first|simp [go_sem,K] at I|simp [go_sem] at I|skip);replace K:=fP I;clear I N J
 have d1:=mD Z (w+1+1+1+1);have d2:=mD o2 (w+1+1+1+1);have p1:=aL (lo':=w) Z tO;have p2:=aL (lo':=w) o2 tO;obtain ⟨a1,q1,rfl,_⟩:=Z.seg;obtain ⟨a2,q2,rfl,_⟩:=o2.seg;have nw:∀ j,(j<w.heap.size+1+1+1+1∨V.heap.size≤j)→some j≠(Value.slice a1 c.cells q1).ownBlock:=fun j hj e=>by have:=d1 _ e.symm;have:=(Z.lt _ e.symm).2;omega
 have ai:=nw (w.heap.size) tO;have aj:=nw (w+1) tO;have ak:=nw (w+1+1) tO;have al:=nw (w+1+1+1) tO;have am:=nw V tO;obtain ⟨k0,X,Y,k3⟩:=pz (a:=w) (b:=V);go_wp2_with fail
 go_region_held3 (fun w'=>hp w' V=some (.cells (aH c (.slice a1 c.cells q1) (.slice a2 c.words q2)) 31)∧hp w' (w+1)=some (.cells (aB h) 49)∧w'.cell? ⟨w+1,3,none⟩=some (.int .i64 i))
  (first|(simp [*,go_sem]))
  (first|(go_at_call 203;refine (ST.out _ _ _ (zO p1 Z) (zO p2 o2) hi).mono ?_;rintro _ w4 ⟨rfl,s1,s2,H⟩;have a5:=H.size;(try (simp at a5));have I:=And.intro (bM H (b:=V) tS dM) <| And.intro (bM H (b:=w+1+1+1) tS dM) <| And.intro (bM H (b:=w+1+1) tS dM) <| And.intro (bM H (b:=w+1) tS dM) <| bM H (b:=w) tS dM;(first|simp [go_sem,K,k0,X,Y,k3] at I|simp [go_sem] at I|skip);replace K:=ng I;clear I;have ag:Below w w w4:=mO zB H tS (fun k hk=>by have:=d1 k hk;omega);clear H)|((go_at_call 206;refine aK w zB fun J=>?_;refine aK w4 zB fun bk=>?_;refine (zU _ _ _).mono ?_;rintro _ w5 ⟨rfl,F⟩;have ah:=bT J F;have a6:=F.size;(try simp at a6);have I:=And.intro (hQ F (b:=V)) <| And.intro (hQ F (b:=w+1+1+1)) <| And.intro (hQ F (b:=w+1+1)) <| And.intro (hQ F (b:=w+1)) <| hQ F (b:=w);(first|simp [go_sem,K,k0,X,Y,k3] at I|simp [go_sem] at I|skip);replace K:=ng I;clear I;have L:=bT bk F;clear F J bk);have r1:=own_below s1 L;have r2:=own_below s2 L)|((go_at_call 198;refine aK w zB fun J=>?_;refine (D.out _ _ _ (zO r1 Z) (zO r2 o2)).mono ?_;rintro _ w3 ⟨⟨y1,y2,rfl,T,U,a7,a8⟩,G⟩;have af:=bT J G;have a4:=G.size;(try simp at a4);have I:=And.intro (hQ G (b:=V)) <| And.intro (hQ G (b:=w+1+1+1)) <| And.intro (hQ G (b:=w+1+1)) <| And.intro (hQ G (b:=w+1)) <| hQ G (b:=w);(first|simp [go_sem,K,k0,X,Y,k3] at I|simp [go_sem] at I|skip);replace K:=ng I;clear I G J);obtain ⟨⟨O,R⟩,a9,aa⟩:=BI (w:=w) (w+1+1+1+1) a7 a8 d1 d2;obtain ⟨ya,yp,rfl,_⟩:=T.seg;obtain ⟨yb,yq,rfl,_⟩:=U.seg))
 all_goals go_wp2
 all_goals (refine rE results190 rfl (bN x.1 (.slice ya x.1.cells yp) (.slice yb x.1.words yq) tY) rfl (aQ x.2.1 tY) ⟨⟨_,_,rfl,?_,?_,a9,aa⟩,zB⟩)
 all_goals (first|exact zP T T O|skip)
 all_goals (first|exact zP U U R|skip)
theorem Qg (c:Ch) (h:Ha) (a b:Option Addr) (p q:Nat) (w:World) (h1:gG w w a c.cells) (z1:a=none→p=0) (h2:gI w w b c.words) (z2:b=none→q=0) (hk:bC c h 9 15 2=true) (ac:h.pos=15) :
  Calls prog 190 #[.agg (aH c (.slice a c.cells p) (.slice b c.words q)),.agg (aB h)] w fun r w'=>dU w w' (aO c h) r:=by
 obtain ⟨X,Y,_,_⟩:=cO hk;obtain ⟨n1,n2⟩:=fT X;have m1:c.cells.length≤1099511627776:=tO;have m2:c.words.length≤1099511627776:=tO;have H1:=aA h1;have H2:=aA h2;have Z1:=aA z1;have Z2:=aA z2;obtain ⟨c1,c2⟩:=iW Y;obtain ⟨i,ab⟩:∃ i:Nat,h.cell=(i:Int):=⟨h.cell.toNat,by omega⟩;have hi:i<c.cells.length:=tO;have e:aO c h=done (bZ c i 9) (begun h.code h.elem h.beg):=by simp [aO,hk,ac,ab,anew]
 rw [e];have ST:=aA fun v1 v2 W=>mo c i 9 v1 v2 w W
 have D:=fun v1 v2 W=>bV (bZ c i 9) (begun h.code h.elem h.beg) v1 v2 w W
 simp only [nO,mH] at D;generalize done (bZ c i 9) (begun h.code h.elem h.beg)=x at *;replace D:=aA D;clear h1 h2 z1 z2 e X Y n1 n2 c1 c2;go_enter func190,ntmps190;go_wp2_with fail;refine aK w zB fun J=>?_;refine (eQ c h 9 15 2 a b p q _ (aT H1 J) (aT H2 J)).mono ?_;rintro _ w1 ⟨rfl,M⟩;obtain ⟨ad,a0,I⟩:=gZ J M (b:=w);(try simp at a0);(try simp [go_sem] at I);replace K:=fP I;clear I M J
 rw [hk];go_wp2_with fail;refine aK w zB fun J=>?_;refine (eT c a b p q _ (aT H1 J) Z1.out (aT H2 J) Z2.out m1 m2).mono ?_;rintro _ V ⟨⟨v1,v2,rfl,Z,o2⟩,N⟩;obtain ⟨ae,a3,I⟩:=gZ J N (b:=w);(try simp at a3);(first|simp [go_sem,K] at I|simp [go_sem] at I|skip);replace K:=fP I;clear I N J
 have d1:=mD Z (w+1+1+1+1);have d2:=mD o2 (w+1+1+1+1);have p1:=aL (lo':=w) Z tO;have p2:=aL (lo':=w) o2 tO;obtain ⟨a1,q1,rfl,_⟩:=Z.seg;obtain ⟨a2,q2,rfl,_⟩:=o2.seg;have nw:∀ j,(j<w.heap.size+1+1+1+1∨V.heap.size≤j)→some j≠(Value.slice a1 c.cells q1).ownBlock:=fun j hj e=>by have:=d1 _ e.symm;have:=(Z.lt _ e.symm).2;omega
 have ai:=nw (w.heap.size) tO;have aj:=nw (w+1) tO;have ak:=nw (w+1+1) tO;have al:=nw (w+1+1+1) tO;have am:=nw V tO;obtain ⟨k0,X,Y,k3⟩:=pz (a:=w) (b:=V);go_wp2_with fail
 go_region_held3 (fun w'=>hp w' V=some (.cells (aH c (.slice a1 c.cells q1) (.slice a2 c.words q2)) 31)∧hp w' (w+1)=some (.cells (aB h) 49)∧w'.cell? ⟨w+1,3,none⟩=some (.int .i64 i))
  (first|(simp [*,go_sem]))
  (first|(go_at_call 203;refine (ST.out _ _ _ (zO p1 Z) (zO p2 o2) hi).mono ?_;rintro _ w4 ⟨rfl,s1,s2,H⟩;have a5:=H.size;(try (simp at a5));have I:=And.intro (bM H (b:=V) tS dM) <| And.intro (bM H (b:=w+1+1+1) tS dM) <| And.intro (bM H (b:=w+1+1) tS dM) <| And.intro (bM H (b:=w+1) tS dM) <| bM H (b:=w) tS dM;(first|simp [go_sem,K,k0,X,Y,k3] at I|simp [go_sem] at I|skip);replace K:=ng I;clear I;have ag:Below w w w4:=mO zB H tS (fun k hk=>by have:=d1 k hk;omega);clear H)|((go_at_call 207;refine aK w zB fun J=>?_;refine aK w4 zB fun bk=>?_;refine (nD _ _).mono ?_;rintro _ w5 ⟨rfl,F⟩;have ah:=bT J F;have a6:=F.size;(try simp at a6);have I:=And.intro (hQ F (b:=V)) <| And.intro (hQ F (b:=w+1+1+1)) <| And.intro (hQ F (b:=w+1+1)) <| And.intro (hQ F (b:=w+1)) <| hQ F (b:=w);(first|simp [go_sem,K,k0,X,Y,k3] at I|simp [go_sem] at I|skip);replace K:=ng I;clear I;have L:=bT bk F;clear F J bk);have r1:=own_below s1 L;have r2:=own_below s2 L)|((go_at_call 198;refine aK w zB fun J=>?_;refine (D.out _ _ _ (zO r1 Z) (zO r2 o2)).mono ?_;rintro _ w3 ⟨⟨y1,y2,rfl,T,U,a7,a8⟩,G⟩;have af:=bT J G;have a4:=G.size;(try simp at a4);have I:=And.intro (hQ G (b:=V)) <| And.intro (hQ G (b:=w+1+1+1)) <| And.intro (hQ G (b:=w+1+1)) <| And.intro (hQ G (b:=w+1)) <| hQ G (b:=w);(first|simp [go_sem,K,k0,X,Y,k3] at I|simp [go_sem] at I|skip);replace K:=ng I;clear I G J);obtain ⟨⟨O,R⟩,a9,aa⟩:=BI (w:=w) (w+1+1+1+1) a7 a8 d1 d2;obtain ⟨ya,yp,rfl,_⟩:=T.seg;obtain ⟨yb,yq,rfl,_⟩:=U.seg))
 all_goals go_wp2
 all_goals (refine rE results190 rfl (bN x.1 (.slice ya x.1.cells yp) (.slice yb x.1.words yq) tY) rfl (aQ x.2.1 tY) ⟨⟨_,_,rfl,?_,?_,a9,aa⟩,zB⟩)
 all_goals (first|exact zP T T O|skip)
 all_goals (first|exact zP U U R|skip)
theorem AU (c:Ch) (h:Ha) (a b:Option Addr) (p q:Nat) (w:World) (h1:gG w w a c.cells) (z1:a=none→p=0) (h2:gI w w b c.words) (z2:b=none→q=0) (hk:bC c h 9 15 2=true) (R:h.pos=13) :
  (∀ (ht:eG c h.wait 1=true),Calls prog 190 #[.agg (aH c (.slice a c.cells p) (.slice b c.words q)),.agg (aB h)] w fun r w'=>dU w w' (aO c h) r) ∧
  (∀ (ht:eG c h.wait 1=false),Calls prog 190 #[.agg (aH c (.slice a c.cells p) (.slice b c.words q)),.agg (aB h)] w fun r w'=>dU w w' (aO c h) r):=by
 constructor
 case' left =>
  intro ht;have N:Hid (0=0):=rfl
 case' right =>
  intro ht;have O:Hid (0=0):=rfl
 all_goals
  obtain ⟨Y,k2,_,_⟩:=cO hk;obtain ⟨n1,n2⟩:=fT Y;have m1:c.cells.length≤1099511627776:=tO;have m2:c.words.length≤1099511627776:=tO;have H1:=aA h1;have H2:=aA h2;have Z1:=aA z1;have Z2:=aA z2
  first
  | (replace N:=N;have e:aO c h=done (cZ c h.wait 1) ({ h with pos:=14 }):=by simp [aO,hk,R,yG,ht])
  | (replace O:=O;have e:aO c h=done (cZ c h.wait 1) ({ h with pos:=15 }):=by simp [aO,hk,R,yG,ht])
  rw [e];have K:=fun a b p q W x1 x2 x3 x4=>uU c h.wait 1 a b p q W x1 x2 x3 x4 m1 m2
  first
  | (replace N:=N;have D:=fun v1 v2 W=>bV (cZ c h.wait 1) ({ h with pos:=14 }) v1 v2 w W)
  | (replace O:=O;have D:=fun v1 v2 W=>bV (cZ c h.wait 1) ({ h with pos:=15 }) v1 v2 w W)
  simp only [xR,wB] at D;rw [ht] at K
  first
  | (replace N:=N;generalize done (cZ c h.wait 1) ({ h with pos:=14 })=x at *)
  | (replace O:=O;generalize done (cZ c h.wait 1) ({ h with pos:=15 })=x at *)
  generalize (cZ c h.wait 1).words=tw at *;replace K:=aA K;replace D:=aA D;clear ht;clear h1 h2 z1 z2 e Y k2 n1 n2;go_enter func190,ntmps190;go_wp2_with fail;refine aK w zB fun H=>?_;refine (eQ c h 9 15 2 a b p q _ (aT H1 H) (aT H2 H)).mono ?_;rintro _ w1 ⟨rfl,I⟩;obtain ⟨a0,T,G⟩:=gZ H I (b:=w);(try simp at T);(try simp [go_sem] at G);replace M:=fP G;clear G I H
  rw [hk];go_wp2_with fail;refine aK w zB fun H=>?_;refine (eT c a b p q _ (aT H1 H) Z1.out (aT H2 H) Z2.out m1 m2).mono ?_;rintro _ Z ⟨⟨v1,v2,rfl,o1,o2⟩,J⟩;obtain ⟨a3,U,G⟩:=gZ H J (b:=w);(try simp at U);(first|simp [go_sem,M] at G|simp [go_sem] at G|skip);replace M:=fP G;clear G J H
  have d1:=mD o1 (w+1+1+1+1);have d2:=mD o2 (w+1+1+1+1);have p1:=aL (lo':=w) o1 tO;have p2:=aL (lo':=w) o2 tO;obtain ⟨a1,q1,rfl,_⟩:=o1.seg;obtain ⟨a2,q2,rfl,_⟩:=o2.seg;obtain ⟨k0,Y,k2,k3⟩:=pz (a:=w) (b:=Z);go_wp2_with fail;refine aK w zB fun H=>?_;refine aK Z zB fun bk=>?_;refine (K.out _ _ _ _ _ (aT H1 H) Z1.out (aT H2 H) Z2.out).mono ?_;rintro _ w4 ⟨⟨u1,u2,rfl,u3,u4⟩,F⟩;have a5:=bT H F;have X:=F.size;(try simp at X);have G:=And.intro (hQ F (b:=Z)) <| And.intro (hQ F (b:=w+1+1+1)) <| And.intro (hQ F (b:=w+1+1)) <| And.intro (hQ F (b:=w+1)) <| hQ F (b:=w);(first|simp [go_sem,M,k0,Y,k2,k3] at G|simp [go_sem] at G|skip);replace M:=ng G;clear G;have a6:=bT bk F;clear F H bk
  try simp at u3 u4
  have d3:=mD u3 (w+1+1+1+1);have d4:=mD u4 (w+1+1+1+1);clear d1 d2;have d1:=d3;have d2:=d4;clear d3 d4;have s1:=aL (lo':=w) u3 tO;have s2:=aL (lo':=w) u4 tO;have b3:=fun j (hj:u1.ownBlock=some j)=>(u3.lt j hj).1
  have b4:=fun j (hj:u2.ownBlock=some j)=>(u4.lt j hj).1
  have g3:u1.ownBlock≠some Z.heap.size:=fun e=>by have:=b3 _ e;omega
  have g4:u2.ownBlock≠some Z.heap.size:=fun e=>by have:=b4 _ e;omega
  obtain ⟨ua,up,rfl,_⟩:=u3.seg;obtain ⟨ub,uq,rfl,_⟩:=u4.seg;go_wp2_with fail;refine aK w zB fun H=>?_;refine (D.out _ _ _ TW TV).mono ?_;rintro _ w3 ⟨⟨y1,y2,rfl,jF,jG,nQ,ny⟩,L⟩;obtain ⟨a4,V,G⟩:=gZ H L (b:=w);(try simp at V);(first|simp [go_sem,M,k0,Y,k2,k3] at G|simp [go_sem] at G|skip);replace M:=fP G;clear G L H
  exact Oj
theorem MM (c:Ch) (h:Ha) (a b:Option Addr) (p q:Nat) (w:World) (h1:gG w w a c.cells) (z1:a=none→p=0) (h2:gI w w b c.words) (H:b=none→q=0) (G:bC c h 9 15 2=true) (F:h.pos=13) (ht:eG c h.wait 1=true) :
  Calls prog 190 #[.agg (aH c (.slice a c.cells p) (.slice b c.words q)),.agg (aB h)] w fun r w'=>dU w w' (aO c h) r:=(AU c h a b p q w h1 z1 h2 H G F).1 ht
theorem MN (c:Ch) (h:Ha) (a b:Option Addr) (p q:Nat) (w:World) (h1:gG w w a c.cells) (z1:a=none→p=0) (h2:gI w w b c.words) (H:b=none→q=0) (G:bC c h 9 15 2=true) (F:h.pos=13) (ht:eG c h.wait 1=false) :
  Calls prog 190 #[.agg (aH c (.slice a c.cells p) (.slice b c.words q)),.agg (aB h)] w fun r w'=>dU w w' (aO c h) r:=(AU c h a b p q w h1 z1 h2 H G F).2 ht
theorem MO (c:Ch) (h:Ha) (a b:Option Addr) (p q:Nat) (w:World) (h1:gG w w a c.cells) (z1:a=none→p=0) (h2:gI w w b c.words) (z2:b=none→q=0) (Y:bC c h 9 15 2=true) (Z:h.pos=10) (hs:(cellAt c h.cell).s=6) :
    Calls prog 190 #[.agg (aH c (.slice a c.cells p) (.slice b c.words q)),.agg (aB h)] w fun r w'=>dU w w' (aO c h) r:=by
  obtain ⟨k1,k2,_,_⟩:=cO Y;obtain ⟨n1,n2⟩:=fT k1;have m1:c.cells.length≤1099511627776:=tO;have m2:c.words.length≤1099511627776:=tO;have U:=aA h1;have H2:=aA h2;have Z1:=aA z1;have Z2:=aA z2;obtain ⟨c1,c2⟩:=iW k2;obtain ⟨i,V⟩:∃ i:Nat,h.cell=(i:Int):=⟨h.cell.toNat,by omega⟩;have hi:i<c.cells.length:=tO;have e:aO c h=(c,h,false):=by simp [aO,Y,Z,sP,hs]
  rw [e];obtain ⟨F,bo,rfl,hb,J⟩:∃ K o,a=some ⟨K,o,none⟩∧K<w.heap.size∧w.cell? ⟨K,o+i*3,none⟩=some (.int .i64 (cellAt c h.cell).s):=by
    rcases U.out with h0|⟨K,o',e,h1,h2⟩
    · omega
    · exact ⟨K,o',e,h1,by simpa [jy,cellAt,V,C3.val] using h2 i 0 hi tO⟩
  generalize (cellAt c h.cell).s=s at *;subst hs;clear h1 h2 z1 z2 e k1 k2 n1 n2 c1 c2;go_enter func190,ntmps190;go_wp2_with fail;refine aK w zB fun F=>?_;refine (eQ c h 9 15 2 _ b p q _ (aT U F) (aT H2 F)).mono ?_;rintro _ w1 ⟨rfl,G⟩;obtain ⟨a0,M,I⟩:=gZ F G (b:=w);(try simp at M);(try simp [go_sem] at I);replace bX:=fP I;clear I G F
  rw [Y];go_wp2_with fail;refine aK w zB fun F=>?_;refine (eT c _ b p q _ (aT U F) Z1.out (aT H2 F) Z2.out m1 m2).mono ?_;rintro _ w2 ⟨⟨v1,v2,rfl,R,T⟩,H⟩;obtain ⟨L,N,I⟩:=gZ F H (b:=w);(try simp at N);(first|simp [go_sem,bX] at I|simp [go_sem] at I|skip);replace bX:=fP I;clear I H F
  have d1:=mD R (w+1+1+1+1);have d2:=mD T (w+1+1+1+1);have p1:=aL (lo':=w) R tO;have p2:=aL (lo':=w) T tO;obtain ⟨a1,q1,rfl,_⟩:=R.seg;obtain ⟨a2,q2,rfl,_⟩:=T.seg;obtain ⟨k0,k1,k2,k3⟩:=pz (a:=w) (b:=w2);have O:=(L.cell (p:=⟨F,bo+i*3,none⟩) hb).trans J;have a5:(0:Int)≤(i:Int):=tO;have a6:(i:Int)<(c.cells.length:Int):=tO;have a3:F<w2.heap.size:=tO;have a4:F≠w2.heap.size:=tO;go_wp2_with fail
  go_region
  all_goals go_wp2
  all_goals (refine rE results190 rfl (bN c (.slice a1 c.cells q1) (.slice a2 c.words q2) tY) rfl (aQ h tY) ⟨⟨_,_,rfl,?_,?_,fun j X=>.inr (by have:=d1 j X;omega),fun j X=>.inr (by have:=d2 j X;omega)⟩,zB⟩)
  all_goals first|(show aF _ _ _ c.cells;exact zO p1 R)|skip
  all_goals first|(show aI _ _ _ c.words;exact zO p2 T)|skip
theorem AV (c:Ch) (h:Ha) (a b:Option Addr) (p q:Nat) (w:World) (h1:gG w w a c.cells) (z1:a=none→p=0) (h2:gI w w b c.words) (z2:b=none→q=0) (hk:bC c h 9 15 2=true) (a6:h.pos=10) (hs:((cellAt c h.cell).s == 6)=false) :
    (∀ (ht:(iV c h).2=true),Calls prog 190 #[.agg (aH c (.slice a c.cells p) (.slice b c.words q)),.agg (aB h)] w fun r w'=>dU w w' (aO c h) r) ∧
    (∀ (ht:(iV c h).2=false),Calls prog 190 #[.agg (aH c (.slice a c.cells p) (.slice b c.words q)),.agg (aB h)] w fun r w'=>dU w w' (aO c h) r):=by
  constructor
  case' left =>
    intro ht;have mA:Hid (0=0):=rfl
  case' right =>
    intro ht;have mB:Hid (0=0):=rfl
  all_goals
    obtain ⟨Y,Z,_,_⟩:=cO hk;obtain ⟨n1,n2⟩:=fT Y;have m1:c.cells.length≤1099511627776:=tO;have m2:c.words.length≤1099511627776:=tO;have H1:=aA h1;have H2:=aA h2;have Z1:=aA z1;have Z2:=aA z2;obtain ⟨c1,c2⟩:=iW Z;obtain ⟨i,ad⟩:∃ i:Nat,h.cell=(i:Int):=⟨h.cell.toNat,by omega⟩;have hi:i<c.cells.length:=tO
    first
    | (replace mA:=mA;have e:aO c h=done c ((iV c h).1):=by simp at hs;simp [aO,hk,a6,sP,hs,ht])
    | (replace mB:=mB;have e:aO c h=nothing:=by simp at hs;simp [aO,hk,a6,sP,hs,ht])
    rw [e];obtain ⟨G,bo,rfl,hb,U⟩:∃ b' o,a=some ⟨b',o,none⟩∧b'<w.heap.size∧w.cell? ⟨b',o+i*3,none⟩=some (.int .i64 (cellAt c h.cell).s):=by
      rcases H1.out with h0|⟨b',o',e,h1,h2⟩
      · omega
      · exact ⟨b',o',e,h1,by simpa [jy,cellAt,ad,C3.val] using h2 i 0 hi tO⟩
    generalize (cellAt c h.cell).s=s at *;have K:=fun W x1=>Jp c h (some ⟨G,bo,none⟩) b p q W x1 c1 tO
    rw [ht] at K
    first
    | (replace mA:=mA
       have D:=aA fun v1 v2 W=>bV (c) ((iV c h).1) v1 v2 w W
       generalize done c ((iV c h).1)=x at *)
    | (replace mB:=mB
       have D:=aA fun W=>jL W w (.slice none 0 0) (.slice none 0 0)
       generalize nothing=x at *)
    generalize (iV c h).1=y at *;replace K:=aA K;clear h1 h2 z1 z2 e Y Z n1 n2 c1 c2;go_enter func190,ntmps190;go_wp2_with fail;refine aK w zB fun G=>?_;refine (eQ c h 9 15 2 _ b p q _ (aT H1 G) (aT H2 G)).mono ?_;rintro _ w1 ⟨rfl,R⟩;obtain ⟨ae,a7,H⟩:=gZ G R (b:=w);(try simp at a7);(try simp [go_sem] at H);replace N:=fP H;clear H R G
    rw [hk];go_wp2_with fail;refine aK w zB fun G=>?_;refine (eT c _ b p q _ (aT H1 G) Z1.out (aT H2 G) Z2.out m1 m2).mono ?_;rintro _ w2 ⟨⟨v1,v2,rfl,o1,o2⟩,T⟩;obtain ⟨a4,a8,H⟩:=gZ G T (b:=w);(try simp at a8);(first|simp [go_sem,N] at H|simp [go_sem] at H|skip);replace N:=fP H;clear H T G
    have d1:=mD o1 (w+1+1+1+1);have d2:=mD o2 (w+1+1+1+1);have p1:=aL (lo':=w) o1 tO;have p2:=aL (lo':=w) o2 tO;obtain ⟨a1,q1,rfl,_⟩:=o1.seg;obtain ⟨a2,q2,rfl,_⟩:=o2.seg;obtain ⟨k0,Y,Z,k3⟩:=pz (a:=w) (b:=w2);have aa:=(a4.cell (p:=⟨G,bo+i*3,none⟩) hb).trans U;have ai:(0:Int)≤(i:Int):=tO;have aj:(i:Int)<(c.cells.length:Int):=tO;have ag:G<w2.heap.size:=tO;have ah:G≠w2.heap.size:=tO;go_wp2_with fail;refine aK w zB fun G=>?_;refine aK w2 zB fun bk=>?_;refine (K.out _ (aT H1 G)).mono ?_;rintro _ w4 ⟨rfl,F⟩;have af:=bT G F;have a9:=F.size;(try simp at a9);have H:=And.intro (hQ F (b:=w2)) <| And.intro (hQ F (b:=w+1+1+1)) <| And.intro (hQ F (b:=w+1+1)) <| And.intro (hQ F (b:=w+1)) <| hQ F (b:=w);(first|simp [go_sem,N,k0,Y,Z,k3] at H|simp [go_sem] at H|skip);replace N:=ng H;clear H;have O:=bT bk F;clear F G bk
    have s1:=own_below p1 O;have s2:=own_below p2 O
    first
    | (replace mA:=mA;go_wp2_with fail;refine aK w zB fun G=>?_;refine (D.out _ _ _ (zO s1 o1) (zO s2 o2)).mono ?_;rintro _ w3 ⟨⟨y1,y2,rfl,L,M,a0,a3⟩,I⟩;obtain ⟨a5,J,H⟩:=gZ G I (b:=w);(try simp at J);(first|simp [go_sem,N,k0,Y,Z,k3] at H|simp [go_sem] at H|skip);replace N:=fP H;clear H I G)
    | (replace mB:=mB
       go_wp2_with fail;refine aK w zB fun G=>?_;refine (D.out _).mono ?_;rintro _ w3 ⟨⟨y1,y2,rfl,L,M,a0,a3⟩,I⟩;obtain ⟨a5,J,H⟩:=gZ G I (b:=w);(try simp at J);(first|simp [go_sem,N,k0,Y,Z,k3] at H|simp [go_sem] at H|skip);replace N:=fP H;clear H I G
       have d3:∀ j,(Value.slice none 0 0).ownBlock=some j→w.heap.size+1+1+1+1≤j:=fun j hj=>by cases hj
       clear d1 d2;have d1:=d3
       have d2:=d3)
    obtain ⟨⟨V,X⟩,ab,ac⟩:=BI (w:=w) (w+1+1+1+1) a0 a3 d1 d2;obtain ⟨ya,yp,rfl,_⟩:=L.seg;obtain ⟨yb,yq,rfl,_⟩:=M.seg;go_wp2;refine rE results190 rfl (bN x.1 (.slice ya x.1.cells yp) (.slice yb x.1.words yq) tY) rfl (aQ x.2.1 tY) ⟨⟨_,_,rfl,?_,?_,ab,ac⟩,zB⟩
    · exact zP L L V
    · exact zP M M X
theorem MP (c:Ch) (h:Ha) (a b:Option Addr) (p q:Nat) (w:World) (h1:gG w w a c.cells) (z1:a=none→p=0) (h2:gI w w b c.words) (H:b=none→q=0) (G:bC c h 9 15 2=true) (F:h.pos=10) (hs:((cellAt c h.cell).s == 6)=false) (ht:(iV c h).2=true) :
    Calls prog 190 #[.agg (aH c (.slice a c.cells p) (.slice b c.words q)),.agg (aB h)] w fun r w'=>dU w w' (aO c h) r:=(AV c h a b p q w h1 z1 h2 H G F hs).1 ht
theorem MQ (c:Ch) (h:Ha) (a b:Option Addr) (p q:Nat) (w:World) (h1:gG w w a c.cells) (z1:a=none→p=0) (h2:gI w w b c.words) (H:b=none→q=0) (G:bC c h 9 15 2=true) (F:h.pos=10) (hs:((cellAt c h.cell).s == 6)=false) (ht:(iV c h).2=false) :
    Calls prog 190 #[.agg (aH c (.slice a c.cells p) (.slice b c.words q)),.agg (aB h)] w fun r w'=>dU w w' (aO c h) r:=(AV c h a b p q w h1 z1 h2 H G F hs).2 ht
theorem Qh (c:Ch) (i m:Int) (a b:Value):aH (zi c i m) a b=aH c a b:=rfl
theorem MR (c:Ch) (i m:Int):(zi c i m).words=c.words:=rfl
theorem Tk (c:Ch) (h:Ha) (a b:Option Addr) (p q:Nat) (w:World) (h1:gG w w a c.cells) (z1:a=none→p=0) (h2:gI w w b c.words) (z2:b=none→q=0) (hk:bC c h 1 8 1=true) (ag:h.pos=2) :
  Calls prog 189 #[.agg (aH c (.slice a c.cells p) (.slice b c.words q)),.agg (aB h)] w fun r w'=>dU w w' (bE c h) r:=by
 obtain ⟨k1,k2,_,_⟩:=cO hk;obtain ⟨n1,n2⟩:=fT k1;have m1:c.cells.length≤1099511627776:=tO;have m2:c.words.length≤1099511627776:=tO;have H1:=aA h1;have H2:=aA h2;have Z1:=aA z1;have Z2:=aA z2;obtain ⟨c1,c2⟩:=iW k2;obtain ⟨i,ae⟩:∃ i:Nat,h.cell=(i:Int):=⟨h.cell.toNat,by omega⟩;have hi:i<c.cells.length:=tO;have e:bE c h=done (zi c i h.elem) { h with pos:=3,cell:=(i:Int) }:=by simp [bE,hk,ag,ae,KM] <;> rfl
 rw [e];have D:=fun v1 v2 W=>bV (zi c i h.elem) { h with pos:=3,cell:=(i:Int) } v1 v2 w W
 have a5:(zi c i h.elem).cells=c.cells.set i ⟨(c.cells.getD i ⟨0,0,0⟩).s,nS (c.cells.getD i ⟨0,0,0⟩).s (c.cells.getD i ⟨0,0,0⟩).e (c.cells.getD i ⟨0,0,0⟩).t h.elem,(c.cells.getD i ⟨0,0,0⟩).t⟩:=by simp [zi,setAt,cellAt]
 rw [a5] at D;simp only [Qh,MR] at D;generalize done (zi c i h.elem) { h with pos:=3,cell:=(i:Int) }=x at *
 clear a5;replace D:=aA D;clear h1 h2 z1 z2 e k1 k2 n1 n2 c1 c2;go_enter func189,ntmps189;go_wp2_with fail;refine aK w zB fun L=>?_;refine (eQ c h 1 8 1 a b p q _ (aT H1 L) (aT H2 L)).mono ?_;rintro _ w1 ⟨rfl,V⟩;obtain ⟨ah,a6,H⟩:=gZ L V (b:=w);(try simp at a6);(try simp [go_sem] at H);replace T:=fP H;clear H V L
 rw [hk];go_wp2_with fail;refine aK w zB fun L=>?_;refine (eT c a b p q _ (aT H1 L) Z1.out (aT H2 L) Z2.out m1 m2).mono ?_;rintro _ O ⟨⟨v1,v2,rfl,Z,o2⟩,X⟩;obtain ⟨ai,a7,H⟩:=gZ L X (b:=w);(try simp at a7);(first|simp [go_sem,T] at H|simp [go_sem] at H|skip);replace T:=fP H;clear H X L
 have d1:=mD Z (w+1+1+1+1);have d2:=mD o2 (w+1+1+1+1);have p1:=aL (lo':=w) Z tO;have p2:=aL (lo':=w) o2 tO;obtain ⟨a1,q1,rfl,_⟩:=Z.seg;obtain ⟨a2,q2,rfl,_⟩:=o2.seg;have nw:∀ j,(j<w.heap.size+1+1+1+1∨O.heap.size≤j)→some j≠(Value.slice a1 c.cells q1).ownBlock:=fun j hj e=>by have:=d1 _ e.symm;have:=(Z.lt _ e.symm).2;omega
 have av:=nw (w.heap.size) tO;have aw:=nw (w+1) tO;have ax:=nw (w+1+1) tO;have ay:=nw (w+1+1+1) tO;have az:=nw O tO;obtain ⟨k0,k1,k2,k3⟩:=pz (a:=w) (b:=O);obtain ⟨g,cap,hv,an,R,J,af⟩:=Z.open1 hi;simp at hv;obtain ⟨rfl,rfl⟩:=hv;have HO:=aA Z;have HP:=aA p1;generalize c.cells.getD i ⟨0,0,0⟩=x0 at *;obtain ⟨s,e,t⟩:=x0;have g0:=J 0 tO;have g1:=J 1 tO;have g2:=J 2 tO;simp only [C3.val,Nat.add_zero] at g0 g1 g2
 have al:(0:Int)≤(i:Int):=tO;have am:(i:Int)<(c.cells.length:Int):=tO;have M:∀ j,(j<w.heap.size+1+1+1+1∨O.heap.size≤j)→g≠j:=fun j hj e=>nw j hj (by simp [Value.ownBlock,e])
 have ao:=M w tO;have ap:=M (w+1) tO;have aq:=M (w+1+1) tO;have ar:=M (w+1+1+1) tO;have au:=M O tO;have a0:=aF.ne Z o2 g (by simp [Value.ownBlock]);clear J Z p1;go_wp2_with fail;refine wp_region_held_drew (S:=fun w'=>w'.cell? ⟨O,4,none⟩=some (.slice (some ⟨g,0,none⟩) c.cells q1)∧w'.cell? ⟨w+1,3,none⟩=some (.int .i64 i)∧w'.cell? ⟨w+1,2,none⟩=some (.int .i64 h.elem)) bH qp (fun a4=>?_);refine mT (i:=0) (oi:=⟨some 43,_,_,_,_,_⟩) rfl ?_;(try simp only [dE])
 refine mT (i:=1) (oi:=⟨some 44,_,_,_,_,_⟩) rfl ?_;(try simp only [dE]);refine mT (i:=2) (oi:=⟨some 45,_,_,_,_,_⟩) rfl ?_;(try simp only [dE]);refine mT (i:=3) (oi:=⟨some 46,_,_,_,_,_⟩) rfl ?_;(try simp only [dE]);refine mT (i:=4) (oi:=⟨some 47,_,_,_,_,_⟩) rfl ?_;(try simp only [dE]);refine mT (i:=5) (oi:=⟨some 48,_,_,_,_,_⟩) rfl ?_;(try simp only [dE]);refine mT (i:=6) (oi:=⟨some 49,_,_,_,_,_⟩) rfl ?_;(try simp only [dE])
 refine mT (i:=7) (oi:=⟨some 50,_,_,_,_,_⟩) rfl ?_;(try simp only [dE]);refine mT (i:=8) (oi:=⟨some 51,_,_,_,_,_⟩) rfl ?_;(try simp only [dE]);refine mT (i:=10) (oi:=⟨some 53,_,_,_,_,_⟩) rfl ?_;(try simp only [dE]);refine mT (i:=11) (oi:=⟨some 54,_,_,_,_,_⟩) rfl ?_;(try simp only [dE]);refine mT (i:=12) (oi:=⟨some 55,_,_,_,_,_⟩) rfl ?_;(try simp only [dE]);refine wpAnyH_ready (rs:=[9]) bH cK ?_;refine AllReadyH.cons (o:=⟨some 52,_,_,_,_,_⟩) rfl (fun K U=>?_) AllReadyH.nil
 go_simp;refine U.out _ _ a4 (fun ad=>?_);clear U
 (try simp only [dE])
 refine wpAnyH_ready (rs:=[13]) bH cK ?_;refine AllReadyH.cons (o:=⟨some 56,_,_,_,_,_⟩) rfl (fun K U=>?_) AllReadyH.nil;go_simp
 go_at_call 199
 refine (LP s e t h.elem _).mono ?_;rintro _ w4 ⟨rfl,F⟩;have a3:Below w w w4:=bT zB F;have I:Below O O w4:=bT zB F;have y0:=(I.cell (p:=⟨g,i*3,none⟩) R).trans g0;have y1:=(I.cell (p:=⟨g,i*3+1,none⟩) R).trans g1;have y2:=(I.cell (p:=⟨g,i*3+2,none⟩) R).trans g2;have yf:=fun o=>(I.frozen (p:=⟨g,o,none⟩) R).trans (af o)
 have a9:=F.size;(try simp at a9);have H:=And.intro (hQ F (b:=O)) <| And.intro (hQ F (b:=w+1+1+1)) <| And.intro (hQ F (b:=w+1+1)) <| And.intro (hQ F (b:=w+1)) <| hQ F (b:=w);(first|simp [go_sem,T,k0,k1,k2,k3] at H|simp [go_sem] at H|skip);replace T:=ng H;clear H F
 refine U.out _ _ qp (fun ab=>?_);clear U
 (try simp only [dE])
 refine mT (i:=14) (oi:=⟨some 57,_,_,_,_,_⟩) rfl ?_;(try simp only [dE]);refine wpAnyH_ready (rs:=[15]) bH cK ?_;refine AllReadyH.cons (o:=⟨none,_,_,_,_,_⟩) rfl (fun K U=>?_) AllReadyH.nil;go_simp;refine U.out _ _ qp (fun ac=>?_);clear U
 (try simp only [dE])
 refine wpAnyH_done bH ?_ _;obtain ⟨w5,N⟩:∃ w5,w5=((w4.setCell ⟨g,i*3,none⟩ (.int .i64 s)).setCell ⟨g,i*3+1,none⟩ (.int .i64 (nS s e t h.elem))).setCell ⟨g,i*3+2,none⟩ (.int .i64 t):=⟨_,rfl⟩;have r1:aF w5 w1 (.slice (some ⟨g,0,none⟩) c.cells q1) (c.cells.set i ⟨s,nS s e t h.elem,t⟩):=by rw [N];simpa using aF.set (own_below HO.out I) hi ⟨s,nS s e t h.elem,t⟩
 have r2:aI w5 w1 (.slice a2 c.words q2) c.words:=by rw [N];exact aV (aV (aV (own_below o2 I) a0 _) a0 _) a0 _
 have G:w4.grownBy w5 (Value.slice (some ⟨g,0,none⟩) c.cells q1).ownBlock:=by rw [N];exact gS (gS (gS (gR _ _) (.inl rfl)) (.inl rfl)) (.inl rfl)
 rw [← N];clear N;have aa:=G.size;(try (simp at aa));have H:=And.intro (bM G (b:=O) tS dM) <| And.intro (bM G (b:=w+1+1+1) tS dM) <| And.intro (bM G (b:=w+1+1) tS dM) <| And.intro (bM G (b:=w+1) tS dM) <| bM G (b:=w) tS dM;(first|simp [go_sem,T,k0,k1,k2,k3] at H|simp [go_sem] at H|skip);replace T:=ng H;clear H
 have ak:Below w w w5:=mO a3 G tO (fun k hk=>by have:=d1 k hk;omega);clear G y0 y1 y2 yf a4 ad ab ac;have s1:=aL (lo':=w) r1 tO;have s2:=aL (lo':=w) r2 tO;go_wp2_with fail;refine aK w zB fun L=>?_;refine (D.out _ _ _ (zO s1 r1) (zO s2 r2)).mono ?_;rintro _ w3 ⟨⟨y1,y2,rfl,jF,jG,nQ,ny⟩,Y⟩;obtain ⟨aj,a8,H⟩:=gZ L Y (b:=w);(try simp at a8);(first|simp [go_sem,T,k0,k1,k2,k3] at H|simp [go_sem] at H|skip);replace T:=fP H;clear H Y L
 exact Lm
end
end Go.Proofs.YtffhjmepfojhnaaGreat
