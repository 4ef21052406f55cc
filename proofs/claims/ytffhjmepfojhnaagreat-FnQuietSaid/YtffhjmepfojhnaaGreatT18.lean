/-
  The reference model's putting into a cell, all cases; the lists are the call's own and hold at most 2 ^ 40 elements.
-/
import Derived.Test.YtffhjmepfojhnaaGreatT14
import Derived.Test.YtffhjmepfojhnaaGreatT10
import Derived.Test.YtffhjmepfojhnaaGreatT12
import Derived.Test.YtffhjmepfojhnaaGreatT15
import Derived.Test.YtffhjmepfojhnaaGreatT05
import Derived.Deep.RegionHeld3
import Derived.Deep.DeepCutAuto
set_option maxRecDepth 100000
set_option maxHeartbeats 4000000
set_option linter.unusedSimpArgs false
set_option linter.unusedVariables false
namespace Go.Proofs.YtffhjmepfojhnaaGreat
open _root_.Go.Proofs.Tryz
section
open Go.RowKit
theorem MG (c:Ch) (h:Ha) (v1 v2:Value) (lo:Nat) (w:World) (h1:aF w lo v1 c.cells) (h2:aI w lo v2 c.words) (I:lo≤w.heap.size) (F:0≤h.cell) (G:h.cell<c.cells.length) :
  ed 201 c h v1 v2 lo w (jS c h):=by
 by_cases hs:(h.seen != 0 && h.seen != 1)=true
 ·exact Jh c h v1 v2 lo w h1 h2 hs
 ·have J:h.seen=0∨h.seen=1:=by simp at hs;omega
  rcases J with H|H
  ·by_cases K:h.come≤h.cell
   ·by_cases L:h.fin≤h.cell
    ·exact Ji c h v1 v2 lo w h1 h2 I F G H K L
    ·cases ht:bB c h.cell h.seen 2 0 with
     | true=>exact G7 c h v1 v2 lo w h1 h2 F G H K tO ht
     | false=>exact Gq c h v1 v2 lo w h1 h2 F G H K tO ht
   ·cases ht:bB c h.cell h.seen 2 0 with
    | true=>exact G6 c h v1 v2 lo w h1 h2 F G H tO ht
    | false=>exact Gn c h v1 v2 lo w h1 h2 F G H tO ht
  ·cases ht:bB c h.cell h.seen 2 0 with
   | true=>exact G5 c h v1 v2 lo w h1 h2 F G H ht
   | false=>exact Gm c h v1 v2 lo w h1 h2 F G H ht
end
section
open Go.RowKit
attribute [local simp] dz
attribute [local go_sem ↓] dA fU dO gW dP gY dW fE bK eO
theorem ic.off2 {w:World} {v v':Value} {F b:Nat} (h:ic w v v') (G:∀ j,v.ownBlock=some j→F≤j) (h2:b<F) (h3:F≤w.heap.size):v'.ownBlock≠some b:=fun e=>by
 rcases h b e with h|h
 ·have:=G b h;omega
 ·omega
theorem ic.up {w:World} {v v':Value} {F n:Nat} (h:ic w v v') (H:∀ j,v.ownBlock=some j→F≤j) (h1:n≤F) (h2:n≤w.heap.size) (j:Nat) (G:v'.ownBlock=some j):n≤j:=by
 rcases h j G with h|h
 ·have:=H j h;omega
 ·omega
def dU (w w':World) (x:St) (r:Ending):Prop:=Ap w w' w (.slice none 0 0) (.slice none 0 0) x r∧Below w w w'
theorem BI {w I:World} {v v' u H:Value} (F:Nat) (L:ic I v v') (M:ic I u H) (J:∀ j,v.ownBlock=some j→F≤j) (K:∀ j,u.ownBlock=some j→F≤j) (h:F≤I.heap.size:=by (try simp) <;> omega) (g:w.heap.size≤F:=by (try simp) <;> omega):((∀ j,w.heap.size≤j→j<F→v'.ownBlock≠some j)∧(∀ j,w.heap.size≤j→j<F→H.ownBlock≠some j))∧ic w (.slice none 0 0) v'∧ic w (.slice none 0 0) H :=
 ⟨⟨fun _ _ h2=>L.off2 J h2 h,fun _ _ h2=>M.off2 K h2 h⟩,fun j G=>.inr (L.up J g (Nat.le_trans g h) j G),fun j G=>.inr (M.up K g (Nat.le_trans g h) j G)⟩
theorem cO {c:Ch} {h:Ha} {f t k:Int} (e:bC c h f t k=true):aN c=true∧aU h=true∧f≤h.pos∧h.pos≤t:=by
 simp [bC,dV] at e;exact ⟨e.1,e.2.1,e.2.2.1.1,e.2.2.1.2⟩
theorem fT {c:Ch} (e:aN c=true):c.cells.length=40∧c.words.length≤80:=by
 simp [aN,fH] at e;omega
theorem iW {h:Ha} (e:aU h=true):0≤h.cell∧h.cell≤39:=by
 simp [aU,sI,dV] at e;omega
theorem PN (c:Ch) (h:Ha) (a b:Option Addr) (p q:Nat) (w:World) (h1:gG w w a c.cells) (h2:gI w w b c.words) (O:bC c h 1 8 1=false) :
  Calls prog 189 #[.agg (aH c (.slice a c.cells p) (.slice b c.words q)),.agg (aB h)] w fun r w'=>dU w w' (bE c h) r:=by
 have e:bE c h=nothing:=by simp [bE,O]
 rw [e];have R:=aA h1;have U:=aA h2;have T:=aA fun W=>jL W w (.slice none 0 0) (.slice none 0 0)
 generalize nothing=x at *;clear h1 h2 e;have d1:∀ j,(Value.slice none 0 0).ownBlock=some j→w.heap.size+1+1+1+1≤j:=fun j hj=>by cases hj
 have d2:=d1;go_enter func189,ntmps189;go_wp2_with fail;refine aK w zB fun I=>?_;refine (eQ c h 1 8 1 a b p q _ (aT R I) (aT U I)).mono ?_;rintro _ V ⟨rfl,F⟩;obtain ⟨M,J,H⟩:=gZ I F (b:=w);(try simp at J);(try simp [go_sem] at H);replace L:=fP H;clear H F I
 rw [O];go_wp2_with fail;refine aK w zB fun I=>?_;refine (T.out _).mono ?_;rintro _ X ⟨⟨y1,y2,rfl,jF,jG,nQ,ny⟩,G⟩;obtain ⟨N,K,H⟩:=gZ I G (b:=w);(try simp at K);(first|simp [go_sem,L] at H|simp [go_sem] at H|skip);replace L:=fP H;clear H G I
 exact UN
theorem SA (c:Ch) (h:Ha) (a b:Option Addr) (p q:Nat) (w:World) (h1:gG w w a c.cells) (z1:a=none→p=0) (h2:gI w w b c.words) (z2:b=none→q=0) (hk:bC c h 1 8 1=true) (F:h.pos=4) :
  Calls prog 189 #[.agg (aH c (.slice a c.cells p) (.slice b c.words q)),.agg (aB h)] w fun r w'=>dU w w' (bE c h) r:=by
 have e:bE c h=done c { h with fin:=c.fin,pos:=5 }:=by simp [bE,hk,F]
 rw [e];obtain ⟨k1,k2,_,_⟩:=cO hk;obtain ⟨n1,n2⟩:=fT k1;have m1:c.cells.length≤1099511627776:=tO;have m2:c.words.length≤1099511627776:=tO;have H1:=aA h1;have H2:=aA h2;have Z1:=aA z1;have Z2:=aA z2;have D:=aA fun v1 v2 W=>bV c { h with fin:=c.fin,pos:=5 } v1 v2 w W
 generalize done c { h with fin:=c.fin,pos:=5 }=x at *
 exact Uh
theorem SB (c:Ch) (h:Ha) (a b:Option Addr) (p q:Nat) (w:World) (h1:gG w w a c.cells) (z1:a=none→p=0) (h2:gI w w b c.words) (z2:b=none→q=0) (hk:bC c h 1 8 1=true) (F:h.pos=5) :
  Calls prog 189 #[.agg (aH c (.slice a c.cells p) (.slice b c.words q)),.agg (aB h)] w fun r w'=>dU w w' (bE c h) r:=by
 have e:bE c h=done c { h with come:=c.got,pos:=6 }:=by simp [bE,hk,F]
 rw [e];obtain ⟨k1,k2,_,_⟩:=cO hk;obtain ⟨n1,n2⟩:=fT k1;have m1:c.cells.length≤1099511627776:=tO;have m2:c.words.length≤1099511627776:=tO;have H1:=aA h1;have H2:=aA h2;have Z1:=aA z1;have Z2:=aA z2;have D:=aA fun v1 v2 W=>bV c { h with come:=c.got,pos:=6 } v1 v2 w W
 generalize done c { h with come:=c.got,pos:=6 }=x at *
 exact Uh
theorem PO (c:Ch) (h:Ha) (a b:Option Addr) (p q:Nat) (w:World) (h1:gG w w a c.cells) (z1:a=none→p=0) (h2:gI w w b c.words) (z2:b=none→q=0) (T:bC c h 1 8 1=true) (U:h.pos=1) (hs:¬ c.sent=40) (V:0≤c.sent∧c.sent≤40) :
  Calls prog 189 #[.agg (aH c (.slice a c.cells p) (.slice b c.words q)),.agg (aB h)] w fun r w'=>dU w w' (bE c h) r:=by
 have e:bE c h=done { c with sent:=c.sent+1 } { h with cell:=c.sent,pos:=2 }:=by simp [bE,T,U,vC,hs]
 rw [e];obtain ⟨k1,k2,_,_⟩:=cO T;obtain ⟨n1,n2⟩:=fT k1;have m1:c.cells.length≤1099511627776:=tO;have m2:c.words.length≤1099511627776:=tO;have X:=aA h1;have Y:=aA h2;have Z1:=aA z1;have Z2:=aA z2;have D:=aA fun v1 v2 W=>bV { c with sent:=c.sent+1 } { h with cell:=c.sent,pos:=2 } v1 v2 w W
 generalize done { c with sent:=c.sent+1 } { h with cell:=c.sent,pos:=2 }=x at *
 clear h1 h2 z1 z2 e k1 k2 n1 n2;go_enter func189,ntmps189;go_wp2_with fail;refine aK w zB fun G=>?_;refine (eQ c h 1 8 1 a b p q _ (aT X G) (aT Y G)).mono ?_;rintro _ w1 ⟨rfl,H⟩;obtain ⟨Z,K,F⟩:=gZ G H (b:=w);(try simp at K);(try simp [go_sem] at F);replace N:=fP F;clear F H G
 rw [T];go_wp2_with fail;refine aK w zB fun G=>?_;refine (eT c a b p q _ (aT X G) Z1.out (aT Y G) Z2.out m1 m2).mono ?_;rintro _ w2 ⟨⟨v1,v2,rfl,O,R⟩,I⟩;obtain ⟨a0,L,F⟩:=gZ G I (b:=w);(try simp at L);(first|simp [go_sem,N] at F|simp [go_sem] at F|skip);replace N:=fP F;clear F I G
 have d1:=mD O (w+1+1+1+1);have d2:=mD R (w+1+1+1+1);have p1:=aL (lo':=w) O tO;have p2:=aL (lo':=w) R tO;obtain ⟨a1,q1,rfl,_⟩:=O.seg;obtain ⟨a2,q2,rfl,_⟩:=R.seg;have a4:¬ c.sent=40:=hs;have a5:0≤c.sent∧c.sent≤40:=V;go_wp2_with fail;refine aK w zB fun G=>?_;refine (D.out _ _ _ (zO p1 O) (zO p2 R)).mono ?_;rintro _ w3 ⟨⟨y1,y2,rfl,jF,jG,nQ,ny⟩,J⟩;obtain ⟨a3,M,F⟩:=gZ G J (b:=w);(try simp at M);(first|simp [go_sem,N] at F|simp [go_sem] at F|skip);replace N:=fP F;clear F J G
 exact UN
theorem nO (c:Ch) (i F:Int) (a b:Value):aH (bZ c i F) a b=aH c a b:=rfl
theorem mH (c:Ch) (i F:Int):(bZ c i F).words=c.words:=rfl
theorem qQ {h:Ha} (e:aU h=true):0≤h.grow∧h.grow≤39:=by
 simp [aU,sI,dV] at e;omega
theorem SC (c:Ch) (h:Ha) (a b:Option Addr) (p q:Nat) (w:World) (h1:gG w w a c.cells) (z1:a=none→p=0) (h2:gI w w b c.words) (z2:b=none→q=0) (R:bC c h 1 8 1=true) (a3:h.pos=8) :
  Calls prog 189 #[.agg (aH c (.slice a c.cells p) (.slice b c.words q)),.agg (aB h)] w fun r w'=>dU w w' (bE c h) r:=by
 obtain ⟨k1,k2,_,_⟩:=cO R;obtain ⟨n1,n2⟩:=fT k1;have m1:c.cells.length≤1099511627776:=tO;have m2:c.words.length≤1099511627776:=tO;have H1:=aA h1;have H2:=aA h2;have Z1:=aA z1;have Z2:=aA z2;obtain ⟨c1,c2⟩:=iW k2;obtain ⟨i,a0⟩:∃ i:Nat,h.cell=(i:Int):=⟨h.cell.toNat,by omega⟩;have hi:i<c.cells.length:=tO;have e:bE c h=done (bZ c i 7) (aM 1 0):=by simp [bE,R,a3,a0]
 rw [e];have ST:=aA fun v1 v2 W=>mo c i 7 v1 v2 w W
 have D:=fun v1 v2 W=>bV (bZ c i 7) (aM 1 0) v1 v2 w W
 simp only [nO,mH] at D;generalize done (bZ c i 7) (aM 1 0)=x at *;replace D:=aA D;clear h1 h2 z1 z2 e k1 k2 n1 n2 c1 c2;go_enter func189,ntmps189;go_wp2_with fail;refine aK w zB fun H=>?_;refine (eQ c h 1 8 1 a b p q _ (aT H1 H) (aT H2 H)).mono ?_;rintro _ w1 ⟨rfl,L⟩;obtain ⟨a4,T,G⟩:=gZ H L (b:=w);(try simp at T);(try simp [go_sem] at G);replace J:=fP G;clear G L H
 rw [R];go_wp2_with fail;refine aK w zB fun H=>?_;refine (eT c a b p q _ (aT H1 H) Z1.out (aT H2 H) Z2.out m1 m2).mono ?_;rintro _ w2 ⟨⟨v1,v2,rfl,O,o2⟩,M⟩;obtain ⟨a5,U,G⟩:=gZ H M (b:=w);(try simp at U);(first|simp [go_sem,J] at G|simp [go_sem] at G|skip);replace J:=fP G;clear G M H
 have d1:=mD O (w+1+1+1+1);have d2:=mD o2 (w+1+1+1+1);have p1:=aL (lo':=w) O tO;have p2:=aL (lo':=w) o2 tO;obtain ⟨a1,q1,rfl,_⟩:=O.seg;obtain ⟨a2,q2,rfl,_⟩:=o2.seg;have Z:∀ j,(j<w.heap.size+1+1+1+1∨w2.heap.size≤j)→some j≠(Value.slice a1 c.cells q1).ownBlock:=fun j hj e=>by have:=d1 _ e.symm;have:=(O.lt _ e.symm).2;omega
 have a9:=Z (w.heap.size) tO;have aa:=Z (w+1) tO;have ab:=Z (w+1+1) tO;have ac:=Z (w+1+1+1) tO;have ad:=Z w2 tO;go_wp2_with fail;refine (ST.out _ _ _ (zO p1 O) (zO p2 o2) hi).mono ?_;rintro _ w4 ⟨rfl,s1,s2,F⟩;have X:=F.size;(try (simp at X));have G:=And.intro (bM F (b:=w2) tS dM) <| And.intro (bM F (b:=w+1+1+1) tS dM) <| And.intro (bM F (b:=w+1+1) tS dM) <| And.intro (bM F (b:=w+1) tS dM) <| bM F (b:=w) tS dM;(first|simp [go_sem,J] at G|simp [go_sem] at G|skip);replace J:=ng G;clear G
 have a7:Below w w w4:=mO zB F tS (fun k R=>by have:=d1 k R;omega);clear F;go_wp2_with fail;refine aK w zB fun H=>?_;refine aK w4 zB fun bk=>?_;refine (iy _ _ _).mono ?_;rintro _ w5 ⟨rfl,I⟩;obtain ⟨a8,Y,G⟩:=gZ H I (b:=w);(try simp at Y);(first|simp [go_sem,J] at G|simp [go_sem] at G|skip);replace J:=fP G;clear G;have K:=bT bk I;clear I H bk
 have r1:=own_below s1 K;have r2:=own_below s2 K;go_wp2_with fail;refine aK w zB fun H=>?_;refine (D.out _ _ _ (zO r1 O) (zO r2 o2)).mono ?_;rintro _ w3 ⟨⟨y1,y2,rfl,jF,jG,nQ,ny⟩,N⟩;obtain ⟨a6,V,G⟩:=gZ H N (b:=w);(try simp at V);(first|simp [go_sem,J] at G|simp [go_sem] at G|skip);replace J:=fP G;clear G N H
 exact Lm
theorem xR (c:Ch) (v x:Int) (a b:Value):aH (cZ c v x) a b=aH c a b:=by unfold cZ;split <;> rfl
theorem wB (c:Ch) (v x:Int):(cZ c v x).cells=c.cells:=by unfold cZ;split <;> rfl
theorem aF.zero {w:World} {lo n q:Nat} {a:Option Addr} {cs:List C3} (h:aF w lo (.slice a n q) cs) (e:a=none):q=0:=by
 subst e;rcases h.2 with ⟨h1,_⟩|⟨g,cap,F,h1,_⟩
 ·simp at h1;exact h1.2
 ·simp at h1
theorem aI.zero {w:World} {lo n q:Nat} {a:Option Addr} {l:List Int} (h:aI w lo (.slice a n q) l) (e:a=none):q=0:=by
 subst e;rcases h.2 with ⟨h1,_⟩|⟨g,cap,F,h1,_⟩
 ·simp at h1;exact h1.2
 ·simp at h1
theorem aF.segAt {w:World} {lo q:Nat} {a:Option Addr} {cs:List C3} (h:aF w lo (.slice a cs.length q) cs):gG w w a cs:=by
 obtain ⟨F,G,e,hs⟩:=h.seg;simp at e;obtain ⟨rfl,rfl⟩:=e;exact hs
theorem aI.segAt {w:World} {lo q:Nat} {a:Option Addr} {l:List Int} (h:aI w lo (.slice a l.length q) l):gI w w a l:=by
 obtain ⟨F,G,e,hs⟩:=h.seg;simp at e;obtain ⟨rfl,rfl⟩:=e;exact hs
theorem SE (c:Ch) (h:Ha) (a b:Option Addr) (p q:Nat) (w:World) (h1:gG w w a c.cells) (z1:a=none→p=0) (h2:gI w w b c.words) (z2:b=none→q=0) (hk:bC c h 1 8 1=true) (a0:h.pos=7) :
  Calls prog 189 #[.agg (aH c (.slice a c.cells p) (.slice b c.words q)),.agg (aB h)] w fun r w'=>dU w w' (bE c h) r:=by
 have e:bE c h=done (cZ c h.wait 1) (nZ c h).2:=by simp [bE,hk,a0,nZ]
 rw [e];obtain ⟨k1,k2,_,_⟩:=cO hk;obtain ⟨n1,n2⟩:=fT k1;have m1:c.cells.length≤1099511627776:=tO;have m2:c.words.length≤1099511627776:=tO;have H1:=aA h1;have H2:=aA h2;have Z1:=aA z1;have Z2:=aA z2;have D:=fun v1 v2 W=>bV (cZ c h.wait 1) (nZ c h).2 v1 v2 w W
 have K:=aA fun a b p q W=>Jj c h a b p q W
 simp only [xR,wB] at D;generalize done (cZ c h.wait 1) (nZ c h).2=x at *;generalize (nZ c h).2=y at *;generalize (cZ c h.wait 1).words=tw at *;replace D:=aA D;clear h1 h2 z1 z2 e k1 k2 n1 n2;go_enter func189,ntmps189;go_wp2_with fail;refine aK w zB fun H=>?_;refine (eQ c h 1 8 1 a b p q _ (aT H1 H) (aT H2 H)).mono ?_;rintro _ w1 ⟨rfl,I⟩;obtain ⟨a5,N,G⟩:=gZ H I (b:=w);(try simp at N);(try simp [go_sem] at G);replace M:=fP G;clear G I H
 rw [hk];go_wp2_with fail;refine aK w zB fun H=>?_;refine (eT c a b p q _ (aT H1 H) Z1.out (aT H2 H) Z2.out m1 m2).mono ?_;rintro _ w2 ⟨⟨v1,v2,rfl,U,V⟩,J⟩;obtain ⟨a6,O,G⟩:=gZ H J (b:=w);(try simp at O);(first|simp [go_sem,M] at G|simp [go_sem] at G|skip);replace M:=fP G;clear G J H
 have d1:=mD U (w+1+1+1+1);have d2:=mD V (w+1+1+1+1);have p1:=aL (lo':=w) U tO;have p2:=aL (lo':=w) V tO;obtain ⟨a1,q1,rfl,_⟩:=U.seg;obtain ⟨a2,q2,rfl,_⟩:=V.seg;have za:=aF.zero U;have zb:=aI.zero V;have ba:∀ j,j<w.heap.size+1+1+1+1→j<w1.heap.size:=fun j Z=>by omega
 have g1:=aF.segAt U;have g2:=aI.segAt V;have G1:=aA g1;have G2:=aA g2;clear g1 g2;go_wp2_with fail;refine aK w zB fun H=>?_;refine (K.out _ _ _ _ _ ((G1.out.below zB).more tS) za ((G2.out.below zB).more tS) zb m1 m2).mono ?_;rintro _ w3 ⟨⟨v3,v4,rfl,o3,o4⟩,F⟩;have a7:=bT H F;have R:=F.size;(try simp at R);have G:=And.intro (hQ F (b:=w2)) <| And.intro (hQ F (b:=w+1+1+1)) <| And.intro (hQ F (b:=w+1+1)) <| And.intro (hQ F (b:=w+1)) <| hQ F (b:=w);(first|simp [go_sem,M] at G|simp [go_sem] at G|skip);replace M:=ng G;clear G F H
 have d3:∀ j,v3.ownBlock=some j→w.heap.size+1+1+1+1≤j:=fun j Z=>by have:=(o3.lt j Z).1;simp at this;omega
 have d4:∀ j,v4.ownBlock=some j→w.heap.size+1+1+1+1≤j:=fun j Z=>by have:=(o4.lt j Z).1;simp at this;omega
 have p3:=aL (lo':=w) o3 dQ;have p4:=aL (lo':=w) o4 dQ;obtain ⟨a3,q3,rfl,_⟩:=o3.seg;obtain ⟨a4,q9,rfl,_⟩:=o4.seg;obtain ⟨k0,k1,k2,k3⟩:=pz (a:=w) (b:=w2);have X:=fun j (h1:w.heap.size≤j) (h2:j<w2.heap.size+1)=>own_ne o3 (b:=j) dQ
 have Y:=fun j (h1:w.heap.size≤j) (h2:j<w2.heap.size+1)=>own_ne o4 (b:=j) dQ
 clear d1 d2;have d1:=d3;have d2:=d4;go_wp2_with fail;refine aK w zB fun H=>?_;refine (D.out _ _ _ (zP p3 p3 X) (zP p4 p4 Y)).mono ?_;rintro _ w5 ⟨⟨y1,y2,rfl,jF,jG,nQ,ny⟩,L⟩;obtain ⟨a8,T,G⟩:=gZ H L (b:=w);(try simp at T);(first|simp [go_sem,M,k0,k1,k2,k3] at G|simp [go_sem] at G|skip);replace M:=fP G;clear G L H
 exact Lm
theorem PQ (c:Ch) (h:Ha) (a b:Option Addr) (p q:Nat) (w:World) (h1:gG w w a c.cells) (h2:gI w w b c.words) (O:bC c h 9 15 2=false) :
  Calls prog 190 #[.agg (aH c (.slice a c.cells p) (.slice b c.words q)),.agg (aB h)] w fun r w'=>dU w w' (aO c h) r:=by
 have e:aO c h=nothing:=by simp [aO,O]
 rw [e];have R:=aA h1;have U:=aA h2;have T:=aA fun W=>jL W w (.slice none 0 0) (.slice none 0 0)
 generalize nothing=x at *;clear h1 h2 e;have d1:∀ j,(Value.slice none 0 0).ownBlock=some j→w.heap.size+1+1+1+1≤j:=fun j V=>by cases V
 have d2:=d1;go_enter func190,ntmps190;go_wp2_with fail;refine aK w zB fun I=>?_;refine (eQ c h 9 15 2 a b p q _ (aT R I) (aT U I)).mono ?_;rintro _ X ⟨rfl,F⟩;obtain ⟨M,J,H⟩:=gZ I F (b:=w);(try simp at J);(try simp [go_sem] at H);replace L:=fP H;clear H F I
 rw [O];go_wp2_with fail;refine aK w zB fun I=>?_;refine (T.out _).mono ?_;rintro _ Y ⟨⟨Z,y2,rfl,jF,jG,nQ,ny⟩,G⟩;obtain ⟨N,K,H⟩:=gZ I G (b:=w);(try simp at K);(first|simp [go_sem,L] at H|simp [go_sem] at H|skip);replace L:=fP H;clear H G I
 exact Oj
theorem PR (c:Ch) (h:Ha) (a b:Option Addr) (p q:Nat) (w:World) (h1:gG w w a c.cells) (z1:a=none→p=0) (h2:gI w w b c.words) (z2:b=none→q=0) (hk:bC c h 9 15 2=true) (F:h.pos=11) :
  Calls prog 190 #[.agg (aH c (.slice a c.cells p) (.slice b c.words q)),.agg (aB h)] w fun r w'=>dU w w' (aO c h) r:=by
 obtain ⟨k1,k2,_,_⟩:=cO hk;obtain ⟨n1,n2⟩:=fT k1;have m1:c.cells.length≤1099511627776:=tO;have m2:c.words.length≤1099511627776:=tO;have H1:=aA h1;have H2:=aA h2;have Z1:=aA z1;have Z2:=aA z2;have e:aO c h=done (c) ({ h with come:=c.sent,pos:=12 }):=by simp [aO,hk,F]
 rw [e];have D:=aA fun v1 v2 W=>bV (c) ({ h with come:=c.sent,pos:=12 }) v1 v2 w W
 generalize done (c) ({ h with come:=c.sent,pos:=12 })=x at *;exact Ub
theorem PS (c:Ch) (h:Ha) (a b:Option Addr) (p q:Nat) (w:World) (h1:gG w w a c.cells) (z1:a=none→p=0) (h2:gI w w b c.words) (z2:b=none→q=0) (hk:bC c h 9 15 2=true) (F:h.pos=9) (hs:¬ c.got=40) (G:0≤c.got∧c.got≤40) :
  Calls prog 190 #[.agg (aH c (.slice a c.cells p) (.slice b c.words q)),.agg (aB h)] w fun r w'=>dU w w' (aO c h) r:=by
 obtain ⟨k1,k2,_,_⟩:=cO hk;obtain ⟨n1,n2⟩:=fT k1;have m1:c.cells.length≤1099511627776:=tO;have m2:c.words.length≤1099511627776:=tO;have H1:=aA h1;have H2:=aA h2;have Z1:=aA z1;have Z2:=aA z2;have e:aO c h=done ({ c with got:=c.got+1 }) ({ h with cell:=c.got,pos:=10 }):=by simp [aO,hk,F,sN,hs]
 rw [e];have D:=aA fun v1 v2 W=>bV ({ c with got:=c.got+1 }) ({ h with cell:=c.got,pos:=10 }) v1 v2 w W
 generalize done ({ c with got:=c.got+1 }) ({ h with cell:=c.got,pos:=10 })=x at *;exact Ub
theorem PT (c:Ch) (h:Ha) (a b:Option Addr) (p q:Nat) (w:World) (h1:gG w w a c.cells) (z1:a=none→p=0) (h2:gI w w b c.words) (z2:b=none→q=0) (hk:bC c h 9 15 2=true) (a6:h.pos=9) (hs:c.got=40) :
  Calls prog 190 #[.agg (aH c (.slice a c.cells p) (.slice b c.words q)),.agg (aB h)] w fun r w'=>dU w w' (aO c h) r:=by
 obtain ⟨k1,k2,_,_⟩:=cO hk;obtain ⟨n1,n2⟩:=fT k1;have m1:c.cells.length≤1099511627776:=tO;have m2:c.words.length≤1099511627776:=tO;have H1:=aA h1;have H2:=aA h2;have Z1:=aA z1;have Z2:=aA z2;have e:aO c h=done c (aM 4 0):=by simp [aO,hk,a6,sN,hs]
 rw [e];have D:=aA fun v1 v2 W=>bV (c) (aM 4 0) v1 v2 w W
 generalize done c (aM 4 0)=x at *;clear h1 h2 z1 z2 e k1 k2 n1 n2;go_enter func190,ntmps190;go_wp2_with fail;refine aK w zB fun H=>?_;refine (eQ c h 9 15 2 a b p q _ (aT H1 H) (aT H2 H)).mono ?_;rintro _ w1 ⟨rfl,J⟩;obtain ⟨a7,U,G⟩:=gZ H J (b:=w);(try simp at U);(try simp [go_sem] at G);replace T:=fP G;clear G J H
 rw [hk];go_wp2_with fail;refine aK w zB fun H=>?_;refine (eT c a b p q _ (aT H1 H) Z1.out (aT H2 H) Z2.out m1 m2).mono ?_;rintro _ w2 ⟨⟨v1,v2,rfl,Z,o2⟩,K⟩;obtain ⟨a8,V,G⟩:=gZ H K (b:=w);(try simp at V);(first|simp [go_sem,T] at G|simp [go_sem] at G|skip);replace T:=fP G;clear G K H
 have d1:=mD Z (w+1+1+1+1);have d2:=mD o2 (w+1+1+1+1);have p1:=aL (lo':=w) Z tO;have p2:=aL (lo':=w) o2 tO;obtain ⟨a1,q1,rfl,_⟩:=Z.seg;obtain ⟨a2,q2,rfl,_⟩:=o2.seg;go_wp2_with fail
 go_region_with (first|((go_at_call 130;refine aK w zB fun H=>?_;refine aK w2 zB fun bk=>?_;refine (iy _ _ _).mono ?_;rintro _ w5 ⟨rfl,F⟩;have aa:=bT H F;have Y:=F.size;(try simp at Y);have G:=And.intro (hQ F (b:=w2)) <| And.intro (hQ F (b:=w+1+1+1)) <| And.intro (hQ F (b:=w+1+1)) <| And.intro (hQ F (b:=w+1)) <| hQ F (b:=w);(first|simp [go_sem,T] at G|simp [go_sem] at G|skip);replace T:=ng G;clear G;have I:=bT bk F;clear F H bk);have r1:=own_below p1 I;have r2:=own_below p2 I)|((go_at_call 198;refine aK w zB fun H=>?_;refine (D.out _ _ _ (zO r1 Z) (zO r2 o2)).mono ?_;rintro _ w3 ⟨⟨y1,y2,rfl,O,R,a0,a3⟩,L⟩;obtain ⟨a9,X,G⟩:=gZ H L (b:=w);(try simp at X);(first|simp [go_sem,T] at G|simp [go_sem] at G|skip);replace T:=fP G;clear G L H);obtain ⟨⟨M,N⟩,a4,a5⟩:=BI (w:=w) (w+1+1+1+1) a0 a3 d1 d2;obtain ⟨ya,yp,rfl,_⟩:=O.seg;obtain ⟨yb,yq,rfl,_⟩:=R.seg))
 all_goals go_wp2
 all_goals (refine rE results190 rfl (bN x.1 (.slice ya x.1.cells yp) (.slice yb x.1.words yq) tY) rfl (aQ x.2.1 tY) ⟨⟨_,_,rfl,?_,?_,a4,a5⟩,zB⟩)
 all_goals (first|exact zP O O M|skip)
 all_goals (first|exact zP R R N|skip)
theorem J4 (x:St) (c:Ch) (h:Ha) (a b:Option Addr) (p q:Nat) (w:World) (h1:gG w w a c.cells) (z1:a=none→p=0) (h2:gI w w b c.words) (N:b=none→q=0)
  (hs:∀ (a b:Option Addr) (p q:Nat) (w:World),gG w w a c.cells→(a=none→p=0)→gI w w b c.words→(b=none→q=0)→Calls prog 173 #[.agg (aH c (.slice a c.cells p) (.slice b c.words q)),.agg (aB h)] w fun r w'=>dU w w' x r) :
  Calls prog 126 #[.agg (aH c (.slice a c.cells p) (.slice b c.words q)),.agg (aB h)] w fun r w'=>r=.returned (.bool (gV x))∧Below w w w':=by
 have O:=aA h1;have R:=aA h2;have U:=aA z1;have V:=aA N;have T:=aA hs;clear h1 h2 z1 N hs;go_enter func126,ntmps126;go_wp2_with fail;refine aK w zB fun H=>?_;refine (T.out _ _ _ _ _ (aT O H) U.out (aT R H) V.out).mono ?_;rintro _ w9 ⟨⟨y1,y2,rfl,I,J,X,Y⟩,F⟩;obtain ⟨L,G,K⟩:=I9 H F (b:=w);(try simp at G);(try simp [go_sem] at K);replace Z:=zX K;clear K F H
 obtain ⟨ya,yp,rfl,_⟩:=I.seg;obtain ⟨yb,yq,rfl,_⟩:=J.seg;cases M:x.2.2 with
 | true =>
  go_wp2;go_ret;exact ⟨by simp [gV,M],zB⟩
 | false =>
  go_wp2;go_ret;exact ⟨by simp [gV,M],zB⟩
end
end Go.Proofs.YtffhjmepfojhnaaGreat
