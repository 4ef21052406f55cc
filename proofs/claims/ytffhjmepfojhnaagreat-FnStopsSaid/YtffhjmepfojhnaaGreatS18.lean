/-
  The reference model's putting into a cell, all cases; the lists are the call's own and hold at most 2 ^ 40 elements.
-/
import Derived.Test.YtffhjmepfojhnaaGreatS14
import Derived.Test.YtffhjmepfojhnaaGreatS16
import Derived.Test.YtffhjmepfojhnaaGreatS12
import Derived.Test.YtffhjmepfojhnaaGreatS10
import Derived.Test.YtffhjmepfojhnaaGreatS15
set_option maxRecDepth 100000
set_option maxHeartbeats 2000000
set_option linter.unusedSimpArgs false
set_option linter.unusedVariables false
namespace Go.Proofs.YtffhjmepfojhnaaGreat
open _root_.Go.Proofs.Tryz
section
open Go.RowKit
theorem Jr (c:Ch) (h:Ha) (r u:Value) (lo:Nat) (w:World) (h1:aD w lo r c.cells) (z:aG w lo u c.words) (D:lo≤w.heap.size) (m:0≤h.cell) (q:h.cell<c.cells.length) :
  dG 201 c h r u lo w (jQ c h):=by
 by_cases hs:(h.seen != 0 && h.seen != 1)=true
 ·exact Fa c h r u lo w h1 z hs
 ·have E:h.seen=0∨h.seen=1:=by simp at hs;omega
  rcases E with y|y
  ·by_cases F:h.come≤h.cell
   ·by_cases G:h.fin≤h.cell
    ·exact Fb c h r u lo w h1 z D m q y F G
    ·cases A:bQ c h.cell h.seen 2 0 with
     | true=>exact CY c h r u lo w h1 z m q y F tO A
     | false=>exact Db c h r u lo w h1 z m q y F tO A
   ·cases A:bQ c h.cell h.seen 2 0 with
    | true=>exact CX c h r u lo w h1 z m q y tO A
    | false=>exact Da c h r u lo w h1 z m q y tO A
  ·cases A:bQ c h.cell h.seen 2 0 with
   | true=>exact CW c h r u lo w h1 z m q y A
   | false=>exact CZ c h r u lo w h1 z m q y A
end
section
open Go.RowKit
attribute [local simp] aP
attribute [local go_sem ↓] aQ bF aY bY aZ bZ aX bB aN aU
theorem fC.off2 {w:World} {v q:Value} {m b:Nat} (h:fC w v q) (r:∀ j,v.ownBlock=some j→m≤j) (u:b<m) (y:m≤w.heap.size):q.ownBlock≠some b:=fun e=>by
 rcases h b e with h|h
 ·have:=r b h;omega
 ·omega
theorem fC.up {w:World} {v q:Value} {m n:Nat} (h:fC w v q) (u:∀ j,v.ownBlock=some j→m≤j) (h1:n≤m) (y:n≤w.heap.size) (j:Nat) (r:q.ownBlock=some j):n≤j:=by
 rcases h j r with h|h
 ·have:=u j h;omega
 ·omega
def dE (w w':World) (x:St) (r:Ending):Prop:=vS w w' w (.slice none 0 0) (.slice none 0 0) x r∧Below w w w'
theorem mW {w A:World} {v z u y:Value} (m:Nat) (F:fC A v z) (G:fC A u y) (D:∀ j,v.ownBlock=some j→m≤j) (E:∀ j,u.ownBlock=some j→m≤j) (h:m≤A.heap.size:=by (try simp) <;> omega) (g:w.heap.size≤m:=by (try simp) <;> omega):((∀ j,w.heap.size≤j→j<m→z.ownBlock≠some j)∧(∀ j,w.heap.size≤j→j<m→y.ownBlock≠some j))∧fC w (.slice none 0 0) z∧fC w (.slice none 0 0) y :=
 ⟨⟨fun _ _ q=>F.off2 D q h,fun _ _ q=>G.off2 E q h⟩,fun j r=>.inr (F.up D g (Nat.le_trans g h) j r),fun j r=>.inr (G.up E g (Nat.le_trans g h) j r)⟩
theorem dC {c:Ch} {h:Ha} {f t k:Int} (e:bJ c h f t k=true):aW c=true∧bM h=true∧f≤h.pos∧h.pos≤t:=by
 simp [bJ,dA] at e
 exact ⟨e.1,e.2.1,e.2.2.1.1,e.2.2.1.2⟩
theorem eU {c:Ch} (e:aW c=true):c.cells.length=40∧c.words.length≤80:=by
 simp [aW,fO] at e
 omega
theorem il {h:Ha} (e:bM h=true):0≤h.cell∧h.cell≤39:=by
 simp [bM,qy,dA] at e
 omega
theorem LJ (c:Ch) (h:Ha) (a b:Option Addr) (p q:Nat) (w:World) (h1:fA w w a c.cells) (G:fD w w b c.words) (Y:bJ c h 1 8 1=false) :
  Calls prog 189 #[.agg (aF c (.slice a c.cells p) (.slice b c.words q)),.agg (aB h)] w fun r w'=>dE w w' (bI c h) r:=by
 have e:bI c h=nothing:=by simp [bI,Y]
 rw [e]
 have H1:=aA h1
 have H2:=aA G
 have T:=aA fun W=>iX W w (.slice none 0 0) (.slice none 0 0)
 generalize nothing=x at *
 clear h1 G e
 have M:∀ j,(Value.slice none 0 0).ownBlock=some j→w.heap.size+1+1+1+1≤j:=fun j J=>by cases J
 have U:=M
 go_enter func189,ntmps189
 go_wp2_with fail;refine aK w zB fun z=>?_;refine (dS c h 1 8 1 a b p q _ (aT H1 z) (aT H2 z)).mono ?_;rintro _ w1 ⟨rfl,m⟩;obtain ⟨V,K,y⟩:=fH z m (b:=w);(try simp at K);(try simp [go_sem] at y);replace R:=dW y;clear y m z
 rw [Y]
 go_wp2_with fail;refine aK w zB fun z=>?_;refine (T.out _).mono ?_;rintro _ w2 ⟨⟨Z,y2,rfl,E,F,H,I⟩,u⟩;obtain ⟨X,L,y⟩:=fH z u (b:=w);(try simp at L);(first|simp [go_sem,R] at y|simp [go_sem] at y|skip);replace R:=dW y;clear y u z
 have A:∀ j,w.heap.size≤j→j<w.heap.size+1+1+1+1→Z.ownBlock≠some j:=fun j _ G=>H.off2 M G tS;have D:∀ j,w.heap.size≤j→j<w.heap.size+1+1+1+1→y2.ownBlock≠some j:=fun j _ G=>I.off2 U G tS;have N:fC w (.slice none 0 0) Z:=fun j J=>.inr (H.up M tS tS j J);have O:fC w (.slice none 0 0) y2:=fun j J=>.inr (I.up U tS tS j J);obtain ⟨ya,yp,rfl,_⟩:=E.seg;obtain ⟨yb,yq,rfl,_⟩:=F.seg
 go_wp2
 refine rE results189 rfl (aO x.1 (.slice ya x.1.cells yp) (.slice yb x.1.words yq) tY) rfl (aJ x.2.1 tY) ⟨⟨_,_,rfl,?_,?_,N,O⟩,by exact zB⟩
 ·exact zP E E A
 ·exact zP F F D
theorem OB (c:Ch) (h:Ha) (a b:Option Addr) (p q:Nat) (w:World) (h1:fA w w a c.cells) (z1:a=none→p=0) (I:fD w w b c.words) (z2:b=none→q=0) (Y:bJ c h 1 8 1=true) (Z:h.pos=4) :
  Calls prog 189 #[.agg (aF c (.slice a c.cells p) (.slice b c.words q)),.agg (aB h)] w fun r w'=>dE w w' (bI c h) r:=by
 have e:bI c h=done c { h with fin:=c.fin,pos:=5 }:=by simp [bI,Y,Z]
 rw [e]
 obtain ⟨k1,k2,_,_⟩:=dC Y
 obtain ⟨n1,n2⟩:=eU k1
 have m1:c.cells.length≤1099511627776:=by omega
 have m2:c.words.length≤1099511627776:=by omega
 have H1:=aA h1
 have H2:=aA I
 have Z1:=aA z1
 have Z2:=aA z2
 have D:=aA fun v1 v2 W=>bU c { h with fin:=c.fin,pos:=5 } v1 v2 w W
 generalize done c { h with fin:=c.fin,pos:=5 }=x at *
 clear h1 I z1 z2 e k1 k2 n1 n2
 go_enter func189,ntmps189
 go_wp2_with fail;refine aK w zB fun u=>?_;refine (dS c h 1 8 1 a b p q _ (aT H1 u) (aT H2 u)).mono ?_;rintro _ w1 ⟨rfl,y⟩;obtain ⟨a0,L,m⟩:=fH u y (b:=w);(try simp at L);(try simp [go_sem] at m);replace O:=dW m;clear m y u
 rw [Y]
 go_wp2_with fail;refine aK w zB fun u=>?_;refine (dU c a b p q _ (aT H1 u) Z1.out (aT H2 u) Z2.out m1 m2).mono ?_;rintro _ w2 ⟨⟨v1,v2,rfl,R,T⟩,z⟩;obtain ⟨a3,M,m⟩:=fH u z (b:=w);(try simp at M);(first|simp [go_sem,O] at m|simp [go_sem] at m|skip);replace O:=dW m;clear m z u
 have d1:=kG R (w+1+1+1+1)
 have d2:=kG T (w+1+1+1+1)
 have p1:=aH (lo':=w) R tO
 have p2:=aH (lo':=w) T tO
 obtain ⟨a1,q1,rfl,_⟩:=R.seg
 obtain ⟨a2,q2,rfl,_⟩:=T.seg
 go_wp2_with fail;refine aK w zB fun u=>?_;refine (D.out _ _ _ (zO p1 R) (zO p2 T)).mono ?_;rintro _ w3 ⟨⟨y1,y2,rfl,G,H,J,K⟩,A⟩;obtain ⟨a4,N,m⟩:=fH u A (b:=w);(try simp at N);(first|simp [go_sem,O] at m|simp [go_sem] at m|skip);replace O:=dW m;clear m A u
 have E:∀ j,w.heap.size≤j→j<w.heap.size+1+1+1+1→y1.ownBlock≠some j:=fun j _ I=>J.off2 d1 I tS;have F:∀ j,w.heap.size≤j→j<w.heap.size+1+1+1+1→y2.ownBlock≠some j:=fun j _ I=>K.off2 d2 I tS;have U:fC w (.slice none 0 0) y1:=fun j X=>.inr (J.up d1 tS tS j X);have V:fC w (.slice none 0 0) y2:=fun j X=>.inr (K.up d2 tS tS j X);obtain ⟨ya,yp,rfl,_⟩:=G.seg;obtain ⟨yb,yq,rfl,_⟩:=H.seg
 go_wp2
 refine rE results189 rfl (aO x.1 (.slice ya x.1.cells yp) (.slice yb x.1.words yq) tY) rfl (aJ x.2.1 tY) ⟨⟨_,_,rfl,?_,?_,U,V⟩,by exact zB⟩
 ·exact zP G G E
 ·exact zP H H F
theorem OC (c:Ch) (h:Ha) (a b:Option Addr) (p q:Nat) (w:World) (h1:fA w w a c.cells) (z1:a=none→p=0) (I:fD w w b c.words) (z2:b=none→q=0) (Y:bJ c h 1 8 1=true) (Z:h.pos=5) :
  Calls prog 189 #[.agg (aF c (.slice a c.cells p) (.slice b c.words q)),.agg (aB h)] w fun r w'=>dE w w' (bI c h) r:=by
 have e:bI c h=done c { h with come:=c.got,pos:=6 }:=by simp [bI,Y,Z]
 rw [e]
 obtain ⟨k1,k2,_,_⟩:=dC Y
 obtain ⟨n1,n2⟩:=eU k1
 have m1:c.cells.length≤1099511627776:=by omega
 have m2:c.words.length≤1099511627776:=by omega
 have H1:=aA h1
 have H2:=aA I
 have Z1:=aA z1
 have Z2:=aA z2
 have D:=aA fun v1 v2 W=>bU c { h with come:=c.got,pos:=6 } v1 v2 w W
 generalize done c { h with come:=c.got,pos:=6 }=x at *
 clear h1 I z1 z2 e k1 k2 n1 n2
 go_enter func189,ntmps189
 go_wp2_with fail;refine aK w zB fun u=>?_;refine (dS c h 1 8 1 a b p q _ (aT H1 u) (aT H2 u)).mono ?_;rintro _ w1 ⟨rfl,y⟩;obtain ⟨a0,L,m⟩:=fH u y (b:=w);(try simp at L);(try simp [go_sem] at m);replace O:=dW m;clear m y u
 rw [Y]
 go_wp2_with fail;refine aK w zB fun u=>?_;refine (dU c a b p q _ (aT H1 u) Z1.out (aT H2 u) Z2.out m1 m2).mono ?_;rintro _ w2 ⟨⟨v1,v2,rfl,R,T⟩,z⟩;obtain ⟨a3,M,m⟩:=fH u z (b:=w);(try simp at M);(first|simp [go_sem,O] at m|simp [go_sem] at m|skip);replace O:=dW m;clear m z u
 have d1:=kG R (w+1+1+1+1)
 have d2:=kG T (w+1+1+1+1)
 have p1:=aH (lo':=w) R tO
 have p2:=aH (lo':=w) T tO
 obtain ⟨a1,q1,rfl,_⟩:=R.seg
 obtain ⟨a2,q2,rfl,_⟩:=T.seg
 go_wp2_with fail;refine aK w zB fun u=>?_;refine (D.out _ _ _ (zO p1 R) (zO p2 T)).mono ?_;rintro _ w3 ⟨⟨y1,y2,rfl,G,H,J,K⟩,A⟩;obtain ⟨a4,N,m⟩:=fH u A (b:=w);(try simp at N);(first|simp [go_sem,O] at m|simp [go_sem] at m|skip);replace O:=dW m;clear m A u
 have E:∀ j,w.heap.size≤j→j<w.heap.size+1+1+1+1→y1.ownBlock≠some j:=fun j _ I=>J.off2 d1 I tS;have F:∀ j,w.heap.size≤j→j<w.heap.size+1+1+1+1→y2.ownBlock≠some j:=fun j _ I=>K.off2 d2 I tS;have U:fC w (.slice none 0 0) y1:=fun j X=>.inr (J.up d1 tS tS j X);have V:fC w (.slice none 0 0) y2:=fun j X=>.inr (K.up d2 tS tS j X);obtain ⟨ya,yp,rfl,_⟩:=G.seg;obtain ⟨yb,yq,rfl,_⟩:=H.seg
 go_wp2
 refine rE results189 rfl (aO x.1 (.slice ya x.1.cells yp) (.slice yb x.1.words yq) tY) rfl (aJ x.2.1 tY) ⟨⟨_,_,rfl,?_,?_,U,V⟩,by exact zB⟩
 ·exact zP G G E
 ·exact zP H H F
theorem LK (c:Ch) (h:Ha) (a b:Option Addr) (p q:Nat) (w:World) (h1:fA w w a c.cells) (z1:a=none→p=0) (I:fD w w b c.words) (z2:b=none→q=0) (Y:bJ c h 1 8 1=true) (Z:h.pos=1) (hs:¬ c.sent=40) (a0:0≤c.sent∧c.sent≤40) :
  Calls prog 189 #[.agg (aF c (.slice a c.cells p) (.slice b c.words q)),.agg (aB h)] w fun r w'=>dE w w' (bI c h) r:=by
 have e:bI c h=done { c with sent:=c.sent+1 } { h with cell:=c.sent,pos:=2 }:=by simp [bI,Y,Z,uk,hs]
 rw [e]
 obtain ⟨k1,k2,_,_⟩:=dC Y
 obtain ⟨n1,n2⟩:=eU k1
 have m1:c.cells.length≤1099511627776:=by omega
 have m2:c.words.length≤1099511627776:=by omega
 have H1:=aA h1
 have H2:=aA I
 have Z1:=aA z1
 have Z2:=aA z2
 have D:=aA fun v1 v2 W=>bU { c with sent:=c.sent+1 } { h with cell:=c.sent,pos:=2 } v1 v2 w W
 generalize done { c with sent:=c.sent+1 } { h with cell:=c.sent,pos:=2 }=x at *
 clear h1 I z1 z2 e k1 k2 n1 n2
 go_enter func189,ntmps189
 go_wp2_with fail;refine aK w zB fun u=>?_;refine (dS c h 1 8 1 a b p q _ (aT H1 u) (aT H2 u)).mono ?_;rintro _ w1 ⟨rfl,y⟩;obtain ⟨a3,L,m⟩:=fH u y (b:=w);(try simp at L);(try simp [go_sem] at m);replace O:=dW m;clear m y u
 rw [Y]
 go_wp2_with fail;refine aK w zB fun u=>?_;refine (dU c a b p q _ (aT H1 u) Z1.out (aT H2 u) Z2.out m1 m2).mono ?_;rintro _ w2 ⟨⟨v1,v2,rfl,R,T⟩,z⟩;obtain ⟨a4,M,m⟩:=fH u z (b:=w);(try simp at M);(first|simp [go_sem,O] at m|simp [go_sem] at m|skip);replace O:=dW m;clear m z u
 have d1:=kG R (w+1+1+1+1)
 have d2:=kG T (w+1+1+1+1)
 have p1:=aH (lo':=w) R tO
 have p2:=aH (lo':=w) T tO
 obtain ⟨a1,q1,rfl,_⟩:=R.seg
 obtain ⟨a2,q2,rfl,_⟩:=T.seg
 have a6:¬ c.sent=40:=hs
 have a7:0≤c.sent∧c.sent≤40:=a0
 go_wp2_with fail;refine aK w zB fun u=>?_;refine (D.out _ _ _ (zO p1 R) (zO p2 T)).mono ?_;rintro _ w3 ⟨⟨y1,y2,rfl,G,H,J,K⟩,A⟩;obtain ⟨a5,N,m⟩:=fH u A (b:=w);(try simp at N);(first|simp [go_sem,O] at m|simp [go_sem] at m|skip);replace O:=dW m;clear m A u
 have E:∀ j,w.heap.size≤j→j<w.heap.size+1+1+1+1→y1.ownBlock≠some j:=fun j _ I=>J.off2 d1 I tS;have F:∀ j,w.heap.size≤j→j<w.heap.size+1+1+1+1→y2.ownBlock≠some j:=fun j _ I=>K.off2 d2 I tS;have U:fC w (.slice none 0 0) y1:=fun j X=>.inr (J.up d1 tS tS j X);have V:fC w (.slice none 0 0) y2:=fun j X=>.inr (K.up d2 tS tS j X);obtain ⟨ya,yp,rfl,_⟩:=G.seg;obtain ⟨yb,yq,rfl,_⟩:=H.seg
 go_wp2
 refine rE results189 rfl (aO x.1 (.slice ya x.1.cells yp) (.slice yb x.1.words yq) tY) rfl (aJ x.2.1 tY) ⟨⟨_,_,rfl,?_,?_,U,V⟩,by exact zB⟩
 ·exact zP G G E
 ·exact zP H H F
end
section
open Go.RowKit
attribute [local simp] aP
attribute [local go_sem ↓] aQ bF aY bY aZ bZ aX bB aN aU
theorem lU (c:Ch) (i m:Int) (a b:Value):aF (cB c i m) a b=aF c a b:=rfl
theorem kU (c:Ch) (i m:Int):(cB c i m).words=c.words:=rfl
theorem nY {h:Ha} (e:bM h=true):0≤h.grow∧h.grow≤39:=by
 simp [bM,qy,dA] at e
 omega
theorem OE (c:Ch) (h:Ha) (a b:Option Addr) (p q:Nat) (w:World) (h1:fA w w a c.cells) (z1:a=none→p=0) (h2:fD w w b c.words) (z2:b=none→q=0) (N:bJ c h 1 8 1=true) (a7:h.pos=8) :
  Calls prog 189 #[.agg (aF c (.slice a c.cells p) (.slice b c.words q)),.agg (aB h)] w fun r w'=>dE w w' (bI c h) r:=by
 obtain ⟨k1,k2,_,_⟩:=dC N
 obtain ⟨n1,n2⟩:=eU k1
 have m1:c.cells.length≤1099511627776:=by omega
 have m2:c.words.length≤1099511627776:=by omega
 have H1:=aA h1
 have H2:=aA h2
 have Z1:=aA z1
 have Z2:=aA z2
 obtain ⟨c1,c2⟩:=il k2
 obtain ⟨i,a6⟩:∃ i:Nat,h.cell=(i:Int):=⟨h.cell.toNat,by omega⟩
 have hi:i<c.cells.length:=by omega
 have e:bI c h=done (cB c i 7) (aV 1 0):=by simp [bI,N,a7,a6]
 rw [e]
 have ST:=aA fun Z v2 W=>kQ c i 7 Z v2 w W
 have D:=fun Z v2 W=>bU (cB c i 7) (aV 1 0) Z v2 w W
 simp only [lU,kU] at D
 generalize done (cB c i 7) (aV 1 0)=x at *
 replace D:=aA D
 clear h1 h2 z1 z2 e k1 k2 n1 n2 c1 c2
 go_enter func189,ntmps189
 go_wp2_with fail;refine aK w zB fun y=>?_;refine (dS c h 1 8 1 a b p q _ (aT H1 y) (aT H2 y)).mono ?_;rintro _ w1 ⟨rfl,F⟩;obtain ⟨a8,O,u⟩:=fH y F (b:=w);(try simp at O);(try simp [go_sem] at u);replace A:=dW u;clear u F y
 rw [N]
 go_wp2_with fail;refine aK w zB fun y=>?_;refine (dU c a b p q _ (aT H1 y) Z1.out (aT H2 y) Z2.out m1 m2).mono ?_;rintro _ w2 ⟨⟨Z,v2,rfl,M,Y⟩,G⟩;obtain ⟨a9,R,u⟩:=fH y G (b:=w);(try simp at R);(first|simp [go_sem,A] at u|simp [go_sem] at u|skip);replace A:=dW u;clear u G y
 have d1:=kG M (w+1+1+1+1)
 have d2:=kG Y (w+1+1+1+1)
 have p1:=aH (lo':=w) M tO
 have p2:=aH (lo':=w) Y tO
 obtain ⟨a1,q1,rfl,_⟩:=M.seg
 obtain ⟨a2,q2,rfl,_⟩:=Y.seg
 have X:∀ j,(j<w.heap.size+1+1+1+1∨w2.heap.size≤j)→some j≠(Value.slice a1 c.cells q1).ownBlock:=fun j hj e=>by have:=d1 _ e.symm;have:=(M.lt _ e.symm).2;omega
 have ad:=X (w.heap.size) tO
 have ae:=X (w+1) tO
 have af:=X (w+1+1) tO
 have ag:=X (w+1+1+1) tO
 have ah:=X w2 tO
 go_wp2_with fail
 refine (ST.out _ _ _ (zO p1 M) (zO p2 Y) hi).mono ?_
 rintro _ w4 ⟨rfl,s1,s2,m⟩
 have U:=m.size;(try (simp at U));have u:=And.intro (bE m (b:=w2) tS (by assumption)) <| And.intro (bE m (b:=w+1+1+1) tS (by assumption)) <| And.intro (bE m (b:=w+1+1) tS (by assumption)) <| And.intro (bE m (b:=w+1) tS (by assumption)) <| bE m (b:=w) tS (by assumption);(first|simp [go_sem,A] at u|simp [go_sem] at u|skip);replace A:=ll u;clear u
 have ab:Below w w w4:=iN zB m tS (fun k N=>by have:=d1 k N;omega)
 clear m
 go_wp2_with fail;refine aK w zB fun y=>?_;refine aK w4 zB fun bk=>?_;refine (gZ _ _ _).mono ?_;rintro _ w5 ⟨rfl,z⟩;obtain ⟨ac,V,u⟩:=fH y z (b:=w);(try simp at V);(first|simp [go_sem,A] at u|simp [go_sem] at u|skip);replace A:=dW u;clear u;have E:=bT bk z;clear z y bk
 have r1:=own_below s1 E
 have r2:=own_below s2 E
 go_wp2_with fail;refine aK w zB fun y=>?_;refine (D.out _ _ _ (zO r1 M) (zO r2 Y)).mono ?_;rintro _ w3 ⟨⟨y1,y2,rfl,K,L,a0,a3⟩,H⟩;obtain ⟨aa,T,u⟩:=fH y H (b:=w);(try simp at T);(first|simp [go_sem,A] at u|simp [go_sem] at u|skip);replace A:=dW u;clear u H y
 obtain ⟨⟨I,J⟩,a4,a5⟩:=mW (w:=w) (w+1+1+1+1) a0 a3 d1 d2;obtain ⟨ya,yp,rfl,_⟩:=K.seg;obtain ⟨yb,yq,rfl,_⟩:=L.seg
 go_wp2
 refine rE results189 rfl (aO x.1 (.slice ya x.1.cells yp) (.slice yb x.1.words yq) tY) rfl (aJ x.2.1 tY) ⟨⟨_,_,rfl,?_,?_,a4,a5⟩,by exact zB⟩
 ·exact zP K K I
 ·exact zP L L J
end
section
open Go.RowKit
attribute [local simp] aP
attribute [local go_sem ↓] aQ bF aY bY aZ bZ aX bB aN aU
theorem tN (c:Ch) (v x:Int) (a b:Value):aF (dM c v x) a b=aF c a b:=by unfold dM;split <;> rfl
theorem rH (c:Ch) (v x:Int):(dM c v x).cells=c.cells:=by unfold dM;split <;> rfl
theorem aD.zero {w:World} {lo n q:Nat} {a:Option Addr} {cs:List C3} (h:aD w lo (.slice a n q) cs) (e:a=none):q=0:=by
 subst e
 rcases h.2 with ⟨h1,_⟩|⟨g,cap,m,h1,_⟩
 ·simp at h1;exact h1.2
 ·simp at h1
theorem aG.zero {w:World} {lo n q:Nat} {a:Option Addr} {l:List Int} (h:aG w lo (.slice a n q) l) (e:a=none):q=0:=by
 subst e
 rcases h.2 with ⟨h1,_⟩|⟨g,cap,m,h1,_⟩
 ·simp at h1;exact h1.2
 ·simp at h1
theorem aD.segAt {w:World} {lo q:Nat} {a:Option Addr} {cs:List C3} (h:aD w lo (.slice a cs.length q) cs):fA w w a cs:=by
 obtain ⟨m,r,e,hs⟩:=h.seg
 simp at e
 obtain ⟨rfl,rfl⟩:=e
 exact hs
theorem aG.segAt {w:World} {lo q:Nat} {a:Option Addr} {l:List Int} (h:aG w lo (.slice a l.length q) l):fD w w a l:=by
 obtain ⟨m,r,e,hs⟩:=h.seg
 simp at e
 obtain ⟨rfl,rfl⟩:=e
 exact hs
theorem OH (c:Ch) (h:Ha) (a b:Option Addr) (p q:Nat) (w:World) (h1:fA w w a c.cells) (z1:a=none→p=0) (Y:fD w w b c.words) (z2:b=none→q=0) (hk:bJ c h 1 8 1=true) (a8:h.pos=7) :
  Calls prog 189 #[.agg (aF c (.slice a c.cells p) (.slice b c.words q)),.agg (aB h)] w fun r w'=>dE w w' (bI c h) r:=by
 have e:bI c h=done (dM c h.wait 1) (mR c h).2:=by simp [bI,hk,a8,mR]
 rw [e]
 obtain ⟨k1,k2,_,_⟩:=dC hk
 obtain ⟨n1,n2⟩:=eU k1
 have m1:c.cells.length≤1099511627776:=by omega
 have m2:c.words.length≤1099511627776:=by omega
 have H1:=aA h1
 have H2:=aA Y
 have Z1:=aA z1
 have Z2:=aA z2
 have D:=fun v1 v2 W=>bU (dM c h.wait 1) (mR c h).2 v1 v2 w W
 have K:=aA fun a b p q W=>Fg c h a b p q W
 simp only [tN,rH] at D
 generalize done (dM c h.wait 1) (mR c h).2=x at *
 generalize (mR c h).2=y at *
 generalize (dM c h.wait 1).words=tw at *
 replace D:=aA D
 clear h1 Y z1 z2 e k1 k2 n1 n2
 go_enter func189,ntmps189
 go_wp2_with fail;refine aK w zB fun z=>?_;refine (dS c h 1 8 1 a b p q _ (aT H1 z) (aT H2 z)).mono ?_;rintro _ w1 ⟨rfl,A⟩;obtain ⟨a9,M,u⟩:=fH z A (b:=w);(try simp at M);(try simp [go_sem] at u);replace L:=dW u;clear u A z
 rw [hk]
 go_wp2_with fail;refine aK w zB fun z=>?_;refine (dU c a b p q _ (aT H1 z) Z1.out (aT H2 z) Z2.out m1 m2).mono ?_;rintro _ w2 ⟨⟨v1,v2,rfl,T,U⟩,E⟩;obtain ⟨aa,N,u⟩:=fH z E (b:=w);(try simp at N);(first|simp [go_sem,L] at u|simp [go_sem] at u|skip);replace L:=dW u;clear u E z
 have d1:=kG T (w+1+1+1+1)
 have d2:=kG U (w+1+1+1+1)
 have p1:=aH (lo':=w) T tO
 have p2:=aH (lo':=w) U tO
 obtain ⟨a1,q1,rfl,_⟩:=T.seg
 obtain ⟨a2,q2,rfl,_⟩:=U.seg
 have za:=aD.zero T
 have zb:=aG.zero U
 have ba:∀ j,j<w.heap.size+1+1+1+1→j<w1.heap.size:=fun j Z=>by omega
 have g1:=aD.segAt T
 have g2:=aG.segAt U
 have G1:=aA g1
 have G2:=aA g2
 clear g1 g2
 go_wp2_with fail;refine aK w zB fun z=>?_;refine (K.out _ _ _ _ _ ((G1.out.below zB).more tS) za ((G2.out.below zB).more tS) zb m1 m2).mono ?_;rintro _ w3 ⟨⟨v3,v4,rfl,o3,o4⟩,m⟩;have ab:=bT z m;have O:=m.size;(try simp at O);have u:=And.intro (hQ m (b:=w2)) <| And.intro (hQ m (b:=w+1+1+1)) <| And.intro (hQ m (b:=w+1+1)) <| And.intro (hQ m (b:=w+1)) <| hQ m (b:=w);(first|simp [go_sem,L] at u|simp [go_sem] at u|skip);replace L:=ll u;clear u m z
 have d3:∀ j,v3.ownBlock=some j→w.heap.size+1+1+1+1≤j:=fun j Z=>by have:=(o3.lt j Z).1;simp at this;omega
 have d4:∀ j,v4.ownBlock=some j→w.heap.size+1+1+1+1≤j:=fun j Z=>by have:=(o4.lt j Z).1;simp at this;omega
 have p3:=aH (lo':=w) o3 (by simp;omega)
 have p4:=aH (lo':=w) o4 (by simp;omega)
 obtain ⟨a3,q3,rfl,_⟩:=o3.seg
 obtain ⟨a4,q9,rfl,_⟩:=o4.seg
 obtain ⟨k0,k1,k2,k3⟩:=mF (a:=w) (b:=w2)
 have V:=fun j (h1:w.heap.size≤j) (Y:j<w2.heap.size+1)=>own_ne o3 (b:=j) (by simp;omega)
 have X:=fun j (h1:w.heap.size≤j) (Y:j<w2.heap.size+1)=>own_ne o4 (b:=j) (by simp;omega)
 clear d1 d2
 have d1:=d3
 have d2:=d4
 go_wp2_with fail;refine aK w zB fun z=>?_;refine (D.out _ _ _ (zP p3 p3 V) (zP p4 p4 X)).mono ?_;rintro _ w5 ⟨⟨y1,y2,rfl,I,J,a0,a5⟩,F⟩;obtain ⟨ac,R,u⟩:=fH z F (b:=w);(try simp at R);(first|simp [go_sem,L,k0,k1,k2,k3] at u|simp [go_sem] at u|skip);replace L:=dW u;clear u F z
 obtain ⟨⟨G,H⟩,a6,a7⟩:=mW (w:=w) (w+1+1+1+1) a0 a5 d1 d2;obtain ⟨ya,yp,rfl,_⟩:=I.seg;obtain ⟨yb,yq,rfl,_⟩:=J.seg
 go_wp2
 refine rE results189 rfl (aO x.1 (.slice ya x.1.cells yp) (.slice yb x.1.words yq) tY) rfl (aJ x.2.1 tY) ⟨⟨_,_,rfl,?_,?_,a6,a7⟩,by exact zB⟩
 ·exact zP I I G
 ·exact zP J J H
end
section
open Go.RowKit
attribute [local simp] aP
attribute [local go_sem ↓] aQ bF aY bY aZ bZ aX bB aN aU
theorem LM (c:Ch) (h:Ha) (a b:Option Addr) (p q:Nat) (w:World) (h1:fA w w a c.cells) (O:fD w w b c.words) (V:bJ c h 9 15 2=false) :
  Calls prog 190 #[.agg (aF c (.slice a c.cells p) (.slice b c.words q)),.agg (aB h)] w fun r w'=>dE w w' (bL c h) r:=by
 have e:bL c h=nothing:=by simp [bL,V]
 rw [e]
 have X:=aA h1
 have Y:=aA O
 have T:=aA fun W=>iX W w (.slice none 0 0) (.slice none 0 0)
 generalize nothing=x at *
 clear h1 O e
 have N:∀ j,(Value.slice none 0 0).ownBlock=some j→w.heap.size+1+1+1+1≤j:=fun j hj=>by cases hj
 have Z:=N
 go_enter func190,ntmps190
 go_wp2_with fail;refine aK w zB fun z=>?_;refine (dS c h 9 15 2 a b p q _ (aT X z) (aT Y z)).mono ?_;rintro _ w1 ⟨rfl,m⟩;obtain ⟨R,G,y⟩:=fH z m (b:=w);(try simp at G);(try simp [go_sem] at y);replace M:=dW y;clear y m z
 rw [V]
 go_wp2_with fail;refine aK w zB fun z=>?_;refine (T.out _).mono ?_;rintro _ w2 ⟨⟨y1,y2,rfl,E,F,I,J⟩,u⟩;obtain ⟨U,H,y⟩:=fH z u (b:=w);(try simp at H);(first|simp [go_sem,M] at y|simp [go_sem] at y|skip);replace M:=dW y;clear y u z
 obtain ⟨⟨A,D⟩,K,L⟩:=mW (w:=w) (w+1+1+1+1) I J N Z;obtain ⟨ya,yp,rfl,_⟩:=E.seg;obtain ⟨yb,yq,rfl,_⟩:=F.seg
 go_wp2
 refine rE results190 rfl (aO x.1 (.slice ya x.1.cells yp) (.slice yb x.1.words yq) tY) rfl (aJ x.2.1 tY) ⟨⟨_,_,rfl,?_,?_,K,L⟩,by exact zB⟩
 ·exact zP E E A
 ·exact zP F F D
theorem LQ (c:Ch) (h:Ha) (a b:Option Addr) (p q:Nat) (w:World) (h1:fA w w a c.cells) (z1:a=none→p=0) (h2:fD w w b c.words) (z2:b=none→q=0) (V:bJ c h 9 15 2=true) (X:h.pos=11) :
  Calls prog 190 #[.agg (aF c (.slice a c.cells p) (.slice b c.words q)),.agg (aB h)] w fun r w'=>dE w w' (bL c h) r:=by
 obtain ⟨k1,k2,_,_⟩:=dC V
 obtain ⟨n1,n2⟩:=eU k1
 have m1:c.cells.length≤1099511627776:=by omega
 have m2:c.words.length≤1099511627776:=by omega
 have Y:=aA h1
 have Z:=aA h2
 have Z1:=aA z1
 have Z2:=aA z2
 have e:bL c h=done (c) ({ h with come:=c.sent,pos:=12 }):=by simp [bL,V,X]
 rw [e]
 have D:=aA fun v1 v2 W=>bU (c) ({ h with come:=c.sent,pos:=12 }) v1 v2 w W
 generalize done (c) ({ h with come:=c.sent,pos:=12 })=x at *
 clear h1 h2 z1 z2 e k1 k2 n1 n2
 go_enter func190,ntmps190
 go_wp2_with fail;refine aK w zB fun u=>?_;refine (dS c h 9 15 2 a b p q _ (aT Y u) (aT Z u)).mono ?_;rintro _ w1 ⟨rfl,y⟩;obtain ⟨a0,I,m⟩:=fH u y (b:=w);(try simp at I);(try simp [go_sem] at m);replace L:=dW m;clear m y u
 rw [V]
 go_wp2_with fail;refine aK w zB fun u=>?_;refine (dU c a b p q _ (aT Y u) Z1.out (aT Z u) Z2.out m1 m2).mono ?_;rintro _ w2 ⟨⟨v1,v2,rfl,M,N⟩,z⟩;obtain ⟨a3,J,m⟩:=fH u z (b:=w);(try simp at J);(first|simp [go_sem,L] at m|simp [go_sem] at m|skip);replace L:=dW m;clear m z u
 have d1:=kG M (w+1+1+1+1)
 have d2:=kG N (w+1+1+1+1)
 have p1:=aH (lo':=w) M tO
 have p2:=aH (lo':=w) N tO
 obtain ⟨a1,q1,rfl,_⟩:=M.seg
 obtain ⟨a2,q2,rfl,_⟩:=N.seg
 go_wp2_with fail;refine aK w zB fun u=>?_;refine (D.out _ _ _ (zO p1 M) (zO p2 N)).mono ?_;rintro _ w3 ⟨⟨y1,y2,rfl,G,H,O,R⟩,A⟩;obtain ⟨a4,K,m⟩:=fH u A (b:=w);(try simp at K);(first|simp [go_sem,L] at m|simp [go_sem] at m|skip);replace L:=dW m;clear m A u
 obtain ⟨⟨E,F⟩,T,U⟩:=mW (w:=w) (w+1+1+1+1) O R d1 d2;obtain ⟨ya,yp,rfl,_⟩:=G.seg;obtain ⟨yb,yq,rfl,_⟩:=H.seg
 go_wp2
 refine rE results190 rfl (aO x.1 (.slice ya x.1.cells yp) (.slice yb x.1.words yq) tY) rfl (aJ x.2.1 tY) ⟨⟨_,_,rfl,?_,?_,T,U⟩,by exact zB⟩
 ·exact zP G G E
 ·exact zP H H F
theorem LU (c:Ch) (h:Ha) (a b:Option Addr) (p q:Nat) (w:World) (h1:fA w w a c.cells) (z1:a=none→p=0) (h2:fD w w b c.words) (z2:b=none→q=0) (V:bJ c h 9 15 2=true) (X:h.pos=9) (hs:¬ c.got=40) (a5:0≤c.got∧c.got≤40) :
  Calls prog 190 #[.agg (aF c (.slice a c.cells p) (.slice b c.words q)),.agg (aB h)] w fun r w'=>dE w w' (bL c h) r:=by
 obtain ⟨k1,k2,_,_⟩:=dC V
 obtain ⟨n1,n2⟩:=eU k1
 have m1:c.cells.length≤1099511627776:=by omega
 have m2:c.words.length≤1099511627776:=by omega
 have Y:=aA h1
 have Z:=aA h2
 have Z1:=aA z1
 have Z2:=aA z2
 have e:bL c h=done ({ c with got:=c.got+1 }) ({ h with cell:=c.got,pos:=10 }):=by simp [bL,V,X,um,hs]
 rw [e]
 have D:=aA fun v1 v2 W=>bU ({ c with got:=c.got+1 }) ({ h with cell:=c.got,pos:=10 }) v1 v2 w W
 generalize done ({ c with got:=c.got+1 }) ({ h with cell:=c.got,pos:=10 })=x at *
 clear h1 h2 z1 z2 e k1 k2 n1 n2
 go_enter func190,ntmps190
 go_wp2_with fail;refine aK w zB fun u=>?_;refine (dS c h 9 15 2 a b p q _ (aT Y u) (aT Z u)).mono ?_;rintro _ w1 ⟨rfl,y⟩;obtain ⟨a0,I,m⟩:=fH u y (b:=w);(try simp at I);(try simp [go_sem] at m);replace L:=dW m;clear m y u
 rw [V]
 go_wp2_with fail;refine aK w zB fun u=>?_;refine (dU c a b p q _ (aT Y u) Z1.out (aT Z u) Z2.out m1 m2).mono ?_;rintro _ w2 ⟨⟨v1,v2,rfl,M,N⟩,z⟩;obtain ⟨a3,J,m⟩:=fH u z (b:=w);(try simp at J);(first|simp [go_sem,L] at m|simp [go_sem] at m|skip);replace L:=dW m;clear m z u
 have d1:=kG M (w+1+1+1+1)
 have d2:=kG N (w+1+1+1+1)
 have p1:=aH (lo':=w) M tO
 have p2:=aH (lo':=w) N tO
 obtain ⟨a1,q1,rfl,_⟩:=M.seg
 obtain ⟨a2,q2,rfl,_⟩:=N.seg
 go_wp2_with fail;refine aK w zB fun u=>?_;refine (D.out _ _ _ (zO p1 M) (zO p2 N)).mono ?_;rintro _ w3 ⟨⟨y1,y2,rfl,G,H,O,R⟩,A⟩;obtain ⟨a4,K,m⟩:=fH u A (b:=w);(try simp at K);(first|simp [go_sem,L] at m|simp [go_sem] at m|skip);replace L:=dW m;clear m A u
 obtain ⟨⟨E,F⟩,T,U⟩:=mW (w:=w) (w+1+1+1+1) O R d1 d2;obtain ⟨ya,yp,rfl,_⟩:=G.seg;obtain ⟨yb,yq,rfl,_⟩:=H.seg
 go_wp2
 refine rE results190 rfl (aO x.1 (.slice ya x.1.cells yp) (.slice yb x.1.words yq) tY) rfl (aJ x.2.1 tY) ⟨⟨_,_,rfl,?_,?_,T,U⟩,by exact zB⟩
 ·exact zP G G E
 ·exact zP H H F
theorem LV (c:Ch) (h:Ha) (a b:Option Addr) (p q:Nat) (w:World) (h1:fA w w a c.cells) (z1:a=none→p=0) (h2:fD w w b c.words) (z2:b=none→q=0) (Z:bJ c h 9 15 2=true) (a0:h.pos=9) (hs:c.got=40) :
  Calls prog 190 #[.agg (aF c (.slice a c.cells p) (.slice b c.words q)),.agg (aB h)] w fun r w'=>dE w w' (bL c h) r:=by
 obtain ⟨k1,k2,_,_⟩:=dC Z
 obtain ⟨n1,n2⟩:=eU k1
 have m1:c.cells.length≤1099511627776:=by omega
 have m2:c.words.length≤1099511627776:=by omega
 have H1:=aA h1
 have H2:=aA h2
 have Z1:=aA z1
 have Z2:=aA z2
 have e:bL c h=done c (aV 4 0):=by simp [bL,Z,a0,um,hs]
 rw [e]
 have D:=aA fun v1 v2 W=>bU (c) (aV 4 0) v1 v2 w W
 generalize done c (aV 4 0)=x at *
 clear h1 h2 z1 z2 e k1 k2 n1 n2
 go_enter func190,ntmps190
 go_wp2_with fail;refine aK w zB fun y=>?_;refine (dS c h 9 15 2 a b p q _ (aT H1 y) (aT H2 y)).mono ?_;rintro _ w1 ⟨rfl,A⟩;obtain ⟨a3,L,u⟩:=fH y A (b:=w);(try simp at L);(try simp [go_sem] at u);replace K:=dW u;clear u A y
 rw [Z]
 go_wp2_with fail;refine aK w zB fun y=>?_;refine (dU c a b p q _ (aT H1 y) Z1.out (aT H2 y) Z2.out m1 m2).mono ?_;rintro _ w2 ⟨⟨v1,v2,rfl,R,T⟩,E⟩;obtain ⟨a4,M,u⟩:=fH y E (b:=w);(try simp at M);(first|simp [go_sem,K] at u|simp [go_sem] at u|skip);replace K:=dW u;clear u E y
 have d1:=kG R (w+1+1+1+1)
 have d2:=kG T (w+1+1+1+1)
 have p1:=aH (lo':=w) R tO
 have p2:=aH (lo':=w) T tO
 obtain ⟨a1,q1,rfl,_⟩:=R.seg
 obtain ⟨a2,q2,rfl,_⟩:=T.seg
 go_wp2_with fail
 go_region_with (first|((go_at_call 130;refine aK w zB fun y=>?_;refine aK w2 zB fun bk=>?_;refine (gZ _ _ _).mono ?_;rintro _ w5 ⟨rfl,m⟩;have a6:=bT y m;have O:=m.size;(try simp at O);have u:=And.intro (hQ m (b:=w2)) <| And.intro (hQ m (b:=w+1+1+1)) <| And.intro (hQ m (b:=w+1+1)) <| And.intro (hQ m (b:=w+1)) <| hQ m (b:=w);(first|simp [go_sem,K] at u|simp [go_sem] at u|skip);replace K:=ll u;clear u;have z:=bT bk m;clear m y bk);have r1:=own_below p1 z;have r2:=own_below p2 z)|((go_at_call 198;refine aK w zB fun y=>?_;refine (D.out _ _ _ (zO r1 R) (zO r2 T)).mono ?_;rintro _ w3 ⟨⟨y1,y2,rfl,I,J,U,V⟩,F⟩;obtain ⟨a5,N,u⟩:=fH y F (b:=w);(try simp at N);(first|simp [go_sem,K] at u|simp [go_sem] at u|skip);replace K:=dW u;clear u F y);obtain ⟨⟨G,H⟩,X,Y⟩:=mW (w:=w) (w+1+1+1+1) U V d1 d2;obtain ⟨ya,yp,rfl,_⟩:=I.seg;obtain ⟨yb,yq,rfl,_⟩:=J.seg))
 all_goals go_wp2
 all_goals (refine rE results190 rfl (aO x.1 (.slice ya x.1.cells yp) (.slice yb x.1.words yq) tY) rfl (aJ x.2.1 tY) ⟨⟨_,_,rfl,?_,?_,X,Y⟩,by exact zB⟩)
 all_goals (first|exact zP I I G|skip)
 all_goals (first|exact zP J J H|skip)
end
end Go.Proofs.YtffhjmepfojhnaaGreat
