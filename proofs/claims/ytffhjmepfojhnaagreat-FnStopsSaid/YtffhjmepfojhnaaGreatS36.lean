/-
  The program's touch of receiving, every case, and its step, on hands and channels that are kept whole; lists lie in memory.
-/
import Derived.Test.YtffhjmepfojhnaaGreatS01
import Derived.Test.YtffhjmepfojhnaaGreatS29
import Derived.Test.YtffhjmepfojhnaaGreatS32
import Derived.Test.YtffhjmepfojhnaaGreatS26
import Derived.Laws.EntriesVeiled
import Derived.Deep.RegionHeld3
import Derived.Test.YtffhjmepfojhnaaGreatS30
import Derived.Test.YtffhjmepfojhnaaGreatS10
import Derived.Test.YtffhjmepfojhnaaGreatS03
import Derived.Test.YtffhjmepfojhnaaGreatRows
import Derived.ProofKit
import Derived.OpenShut
import Derived.ShutString
import Derived.ChangeOld
import Derived.Deep.Slices
import Derived.Deep.Fields
set_option maxRecDepth 100000
set_option maxHeartbeats 4000000
set_option linter.unusedSimpArgs false
set_option linter.unusedVariables false
namespace Go.Proofs.YtffhjmepfojhnaaGreat
open _root_.Go.Proofs.Tryz
section
open Go.RowKit
attribute [local simp] aP
attribute [local go_sem ↓] aQ bF aY bY aZ bZ aX bB aN aU
def Ea (c:Ch) (h:Ha):St:=if c.got=40 then (c,aV 4 0,true) else ({ c with got:=c.got+1 },{ h with cell:=c.got,pos:=10 },true)
theorem xh (c:Ch) (h:Ha) (m q:Value) (lo:Nat) (w:World) (h1:aD w lo m c.cells) (u:aG w lo q c.words) (r:0≤c.got∧c.got≤40) :
  dG 261 c h m q lo w (Ea c h):=by
 unfold Ea
 split
 ·exact Aj c h m q lo w h1 u ‹_›
 ·exact Ak c h m q lo w h1 u ‹_› r
def kV (c:Ch) (h:Ha):St:=if (cellAt c h.cell).s == 6 then (c,h,false) else if (iY c h).2 then (c,(iY c h).1,true) else nothing
theorem Bn (c:Ch) (h:Ha) (r u:Value) (lo:Nat) (w:World) (h1:aD w lo r c.cells) (y:aG w lo u c.words) (m:0≤h.cell) (q:h.cell<c.cells.length) (F:eB h.code h.elem=true) :
  dG 262 c h r u lo w (kV c h):=by
 by_cases n0:(cellAt c h.cell).s=0
 ·rw [show kV c h=(c,{ eD h (cellAt c h.cell) with pos:=11 },true) by simp [kV,iY,n0]]
  exact Gd c h r u lo w h1 y m q n0
 by_cases n1:(cellAt c h.cell).s=1
 ·rw [show kV c h=(c,{ eD h (cellAt c h.cell) with pos:=11 },true) by simp [kV,iY,n1]]
  exact Gf c h r u lo w h1 y m q n1
 by_cases z:(cellAt c h.cell).s=2
 ·rw [show kV c h=(c,{ eD h (cellAt c h.cell) with pos:=12 },true) by simp [kV,iY,z]]
  exact Gg c h r u lo w h1 y m q z
 by_cases A:(cellAt c h.cell).s=3
 ·rw [show kV c h=(c,{ eD h (cellAt c h.cell) with pos:=12 },true) by simp [kV,iY,A]]
  exact Gh c h r u lo w h1 y m q A
 by_cases E:(cellAt c h.cell).s=9
 ·rw [show kV c h=(c,anew h,true) by simp [kV,iY,E];rfl]
  exact Gi c h r u lo w h1 y m q E F
 by_cases D:(cellAt c h.cell).s=6
 ·rw [show kV c h=(c,h,false) by simp [kV,D]]
  exact Gj c h r u lo w h1 y m q D
 ·rw [show kV c h=nothing by simp [kV,iY,n0,n1,z,A,E,D]]
  exact DF c h r u lo w h1 y m q (by simpa using n0) (by simpa using n1) (by simpa using z) (by simpa using A) (by simpa using E) (by simpa using D)
def kW (c:Ch) (h:Ha):St :=
 if h.seen == 2 then uX c 7 0 (eQ h 0) { h with pos:=10 } else if h.seen == 3 then uX c 5 (cellAt c h.cell).t { h with pos:=13 } { h with pos:=10 }
 else if h.seen != 0 && h.seen != 1 then nothing else if h.cell<h.come then uX c 8 0 (eQ h 2) { h with pos:=10 } else zw c 4 (eQ h 1) { h with pos:=10 }
theorem Bo (c:Ch) (h:Ha) (y z:Value) (lo:Nat) (w:World) (h1:aD w lo y c.cells) (D:aG w lo z c.words) (m:0≤h.cell) (r:h.cell<c.cells.length) (I:aW c=true) (F:lo≤w.heap.size) :
  dG 263 c h y z lo w (kW c h):=by
 cases u:(h.seen == 0) with
 | true =>
  have q:h.seen=0:=by simpa using u
  by_cases G:h.come≤h.cell
  ·rw [show kW c h=zw c 4 (eQ h 1) { h with pos:=10 } by simp [kW,q,show ¬ h.cell<h.come by omega]]
   exact DK c h y z lo w h1 D m r I F u G
  ·rw [show kW c h=uX c 8 0 (eQ h 2) { h with pos:=10 } by simp [kW,q,show h.cell<h.come by omega]]
   exact DL c h y z lo w h1 D m r u G
 | false =>
  cases A:(h.seen == 1) with
  | true =>
   have q:h.seen=1:=by simpa using A
   by_cases G:h.come≤h.cell
   ·rw [show kW c h=zw c 4 (eQ h 1) { h with pos:=10 } by simp [kW,q,show ¬ h.cell<h.come by omega]]
    exact DN c h y z lo w h1 D m r I F u A G
   ·rw [show kW c h=uX c 8 0 (eQ h 2) { h with pos:=10 } by simp [kW,q,show h.cell<h.come by omega]]
    exact DR c h y z lo w h1 D m r u A G
  | false =>
   cases E:(h.seen == 2) with
   | true =>
    rw [show kW c h=uX c 7 0 (eQ h 0) { h with pos:=10 } by simp only [kW,E];rfl]
    exact Gq c h y z lo w h1 D m r u A E
   | false =>
    cases H:(h.seen == 3) with
    | true =>
     rw [show kW c h=uX c 5 (cellAt c h.cell).t { h with pos:=13 } { h with pos:=10 } by simp only [kW,E,H];rfl]
     exact Gs c h y z lo w h1 D m r u A E H
    | false =>
     rw [show kW c h=nothing by simp only [kW,E,H,bne,u,A];rfl]
     exact DT c h y z lo w h1 D u A E H
theorem Bp (c:Ch) (h:Ha) (G H:Value) (lo:Nat) (w:World) (h1:aD w lo G c.cells) (J:aG w lo H c.words) (hk:(h.code != 2)=true) :
  dG 260 c h G H lo w (nothing):=by
 have T:=aA fun W=>gV W lo G H
 generalize nothing=x at *
 obtain ⟨K,q1,L,q2,rfl,rfl,o1,o2,M,N,m1,m2,R,Y,U,Z,V,a0,X,a3⟩:=Ep h1 J
 clear h1 J
 go_enter func260,ntmps260
 go_wp2_with fail
 refine (T.out _).mono ?_
 rintro _ w3 ⟨⟨y1,y2,rfl,u,y,A,D⟩,m⟩
 have O:jI (Value.slice K c.cells q1).ownBlock (Value.slice L c.words q2).ownBlock w w3:=gU (dR zB) (dR m)
 have z:=m.size;(try simp at z);have I:=BL m (b:=w);(try simp [go_sem] at I);replace bX:=dW I;clear I m
 obtain ⟨⟨q,r⟩,E,F⟩:=sO (w:=w) (w+1+1+1+1) A D M N;obtain ⟨ya,yp,rfl,_⟩:=u.seg;obtain ⟨yb,yq,rfl,_⟩:=y.seg
 go_wp2
 refine rE results260 rfl (aO x.1 (.slice ya x.1.cells yp) (.slice yb x.1.words yq) tY) rfl (aJ x.2.1 tY) ⟨⟨_,_,rfl,?_,?_,E,F⟩,by exact zN⟩
 ·exact zP u u q
 ·exact zP y y r
theorem yt (c:Ch) (h:Ha) (G H:Value) (lo:Nat) (w:World) (h1:aD w lo G c.cells) (J:aG w lo H c.words) (hk:(h.code != 2)=false) (n9:(h.pos == 9)=false) (a4:(h.pos == 10)=false) (a5:(h.pos == 11)=false) (a6:(h.pos == 12)=false) (a7:(h.pos == 13)=false) (a8:(h.pos == 14)=false) (a9:(h.pos == 15)=false) :
  dG 260 c h G H lo w (nothing):=by
 have T:=aA fun W=>gV W lo G H
 generalize nothing=x at *
 obtain ⟨K,q1,L,q2,rfl,rfl,o1,o2,M,N,m1,m2,R,Y,U,Z,V,a0,X,a3⟩:=Ep h1 J
 clear h1 J
 go_enter func260,ntmps260
 go_wp2_with fail
 refine (T.out _).mono ?_
 rintro _ w3 ⟨⟨y1,y2,rfl,u,y,A,D⟩,m⟩
 have O:jI (Value.slice K c.cells q1).ownBlock (Value.slice L c.words q2).ownBlock w w3:=gU (dR zB) (dR m)
 have z:=m.size;(try simp at z);have I:=BL m (b:=w);(try simp [go_sem] at I);replace bX:=dW I;clear I m
 obtain ⟨⟨q,r⟩,E,F⟩:=sO (w:=w) (w+1+1+1+1) A D M N;obtain ⟨ya,yp,rfl,_⟩:=u.seg;obtain ⟨yb,yq,rfl,_⟩:=y.seg
 go_wp2
 refine rE results260 rfl (aO x.1 (.slice ya x.1.cells yp) (.slice yb x.1.words yq) tY) rfl (aJ x.2.1 tY) ⟨⟨_,_,rfl,?_,?_,E,F⟩,by exact zN⟩
 ·exact zP u u q
 ·exact zP y y r
theorem Eb (c:Ch) (h:Ha) (E F:Value) (lo:Nat) (w:World) (h1:aD w lo E c.cells) (L:aG w lo F c.words) (z:0≤c.got∧c.got≤40) (hk:(h.code != 2)=false) (hq:(h.pos == 9)=true) :
  dG 260 c h E F lo w (Ea c h):=by
 have T:=aA fun W a b=>xh c h E F lo W a b z
 change Hid (∀ W,_→_→Calls _ _ _ _ (fun r w'=>dJ W w' lo E F (Ea c h) r)) at T
 clear z
 generalize Ea c h=x at *
 obtain ⟨O,q1,R,q2,rfl,rfl,M,N,U,V,m1,m2,Y,a4,Z,a5,a0,a6,a3,a7⟩:=Ep h1 L
 clear h1 L
 go_enter func260,ntmps260
 go_wp2_with fail
 refine (T.out _ (zO M M) (zO N N)).mono ?_
 rintro _ w3 ⟨⟨y1,y2,rfl,u,y,G,H⟩,D⟩
 have X:jI (Value.slice O c.cells q1).ownBlock (Value.slice R c.words q2).ownBlock w w3:=gU (dR zB) D
 have A:=D.2.2.2.1;(try (simp at A));have K:=xD D (b:=w);(try simp [go_sem] at K);replace bX:=dW K;clear K
 clear D
 obtain ⟨⟨m,q⟩,I,J⟩:=sO (w:=w) (w+1+1+1+1) G H U V;obtain ⟨ya,yp,rfl,_⟩:=u.seg;obtain ⟨yb,yq,rfl,_⟩:=y.seg
 go_wp2
 refine rE results260 rfl (aO x.1 (.slice ya x.1.cells yp) (.slice yb x.1.words yq) tY) rfl (aJ x.2.1 tY) ⟨⟨_,_,rfl,?_,?_,I,J⟩,by exact zN⟩
 ·exact zP u u m
 ·exact zP y y q
theorem Bq (c:Ch) (h:Ha) (G H:Value) (lo:Nat) (w:World) (h1:aD w lo G c.cells) (N:aG w lo H c.words) (A:0≤h.cell) (D:h.cell<c.cells.length) (m:eB h.code h.elem=true) (hk:(h.code != 2)=false) (hq:(h.pos == 10)=true) :
  dG 260 c h G H lo w (kV c h):=by
 have T:=aA fun W a b=>Bn c h G H lo W a b A D m
 change Hid (∀ W,_→_→Calls _ _ _ _ (fun r w'=>dJ W w' lo G H (kV c h) r)) at T
 clear A D m
 have n9:(h.pos == 9)=false:=by simp at hq ⊢;omega
 generalize kV c h=x at *
 obtain ⟨U,q1,V,q2,rfl,rfl,O,R,X,Y,m1,m2,a0,a6,a3,a7,a4,a8,a5,a9⟩:=Ep h1 N
 clear h1 N
 go_enter func260,ntmps260
 go_wp2_with fail
 refine (T.out _ (zO O O) (zO R R)).mono ?_
 rintro _ w3 ⟨⟨y1,y2,rfl,y,z,I,J⟩,F⟩
 have Z:jI (Value.slice U c.cells q1).ownBlock (Value.slice V c.words q2).ownBlock w w3:=gU (dR zB) F
 have E:=F.2.2.2.1;(try (simp at E));have M:=xD F (b:=w);(try simp [go_sem] at M);replace bX:=dW M;clear M
 clear F
 obtain ⟨⟨q,u⟩,K,L⟩:=sO (w:=w) (w+1+1+1+1) I J X Y;obtain ⟨ya,yp,rfl,_⟩:=y.seg;obtain ⟨yb,yq,rfl,_⟩:=z.seg
 go_wp2
 refine rE results260 rfl (aO x.1 (.slice ya x.1.cells yp) (.slice yb x.1.words yq) tY) rfl (aJ x.2.1 tY) ⟨⟨_,_,rfl,?_,?_,K,L⟩,by exact zN⟩
 ·exact zP y y q
 ·exact zP z z u
theorem Br (c:Ch) (h:Ha) (K L:Value) (lo:Nat) (w:World) (h1:aD w lo K c.cells) (E:aG w lo L c.words) (Y:(h.code != 2)=false) (F:(h.pos == 11)=true) :
  dG 260 c h K L lo w ((c,{ h with come:=c.sent,pos:=12 },true)):=by
 have Z:(h.pos == 9)=false:=by simp at F ⊢;omega
 have O:(h.pos == 10)=false:=by simp at F ⊢;omega
 obtain ⟨z,I,A,J,rfl,rfl,M,N,U,V⟩:=rR h1 E
 clear h1 E
 have G:=M.out
 have H:=N.out
 go_enter func260,ntmps260
 go_wp2_with fail
 go_region_held3 (fun w'=>hp w' w=some (.cells (aF c (.slice z c.cells I) (.slice A c.words J)) 31)∧hp w' (w+1)=some (.cells (aB { h with come:=c.sent }) 49))
  (first|(simp [*,go_sem]))
  (first|((go_at_call 247;refine aK w zB fun D=>?_;refine (dL _ _ _).mono ?_;rintro _ w1 ⟨rfl,q⟩;obtain ⟨r,u,y⟩:=fH D q (b:=w);(try simp at u);(try simp [go_sem] at y);replace X:=dW y;clear y;have m:=r;clear q D);have R:=own_below G m;have T:=own_below H m))
 go_wp2
 refine rE results260 rfl (aO c (.slice z c.cells I) (.slice A c.words J) tZ) rfl (aJ { h with come:=c.sent,pos:=12 } tZ) ⟨⟨_,_,rfl,?_,?_,aM _ _,aM _ _⟩,dR zB⟩
 ·exact zO R G
 ·exact zO T H
theorem Bt (c:Ch) (h:Ha) (M N:Value) (lo:Nat) (w:World) (h1:aD w lo M c.cells) (D:aG w lo N c.words) (y:0≤h.cell) (z:h.cell<c.cells.length) (X:aW c=true) (a3:lo≤w.heap.size) (hk:(h.code != 2)=false) (L:(h.pos == 12)=true) :
  dG 260 c h M N lo w (kW c h):=by
 have R:=fun W a b hl=>Bo c h M N lo W a b y z X hl
 generalize kW c h=x at *
 clear y z X
 have n9:(h.pos == 9)=false:=by simp at L ⊢;omega
 have ac:(h.pos == 10)=false:=by simp at L ⊢;omega
 have ad:(h.pos == 11)=false:=by simp at L ⊢;omega
 have U:=kY h1
 have V:=kY D
 have F:=nO U
 have G:=nO V
 have a4:=F (w.heap.size) tO
 have a8:=G (w.heap.size) tO
 have a5:=F (w+1) tO
 have a9:=G (w+1) tO
 have a6:=F (w+1+1) tO
 have aa:=G (w+1+1) tO
 have a7:=F (w+1+1+1) tO
 have ab:=G (w+1+1+1) tO
 have Y:=h1
 have Z:=D
 obtain ⟨a1,q1,e1,_⟩:=h1.seg
 obtain ⟨a2,q2,e2,_⟩:=D.seg
 subst e1 e2
 have T:=aA R
 clear h1 D R
 go_enter func260,ntmps260
 go_wp2_with fail
 refine (T.out _ (zO Y Y) (zO Z Z) (by simp <;> omega)).mono ?_
 rintro _ w3 ⟨⟨y1,y2,rfl,r,u,H,I⟩,E⟩
 have a0:jI (Value.slice a1 c.cells q1).ownBlock (Value.slice a2 c.words q2).ownBlock w w3:=gU (dR zB) E
 have A:=E.2.2.2.1;(try (simp at A));have O:=xD E (b:=w);(try simp [go_sem] at O);replace bX:=dW O;clear O
 clear E
 obtain ⟨⟨m,q⟩,J,K⟩:=sO (w:=w) (w+1+1+1+1) H I U V;obtain ⟨ya,yp,rfl,_⟩:=r.seg;obtain ⟨yb,yq,rfl,_⟩:=u.seg
 go_wp2
 refine rE results260 rfl (aO x.1 (.slice ya x.1.cells yp) (.slice yb x.1.words yq) tY) rfl (aJ x.2.1 tY) ⟨⟨_,_,rfl,?_,?_,J,K⟩,by exact zN⟩
 ·exact zP r r m
 ·exact zP u u q
theorem Bu (c:Ch) (h:Ha) (v1 v2:Value) (lo:Nat) (w:World) (h1:aD w lo v1 c.cells) (h2:aG w lo v2 c.words) (hc:aW c=true) (a0:lo≤w.heap.size) (hk:(h.code != 2)=false) (hq:(h.pos == 13)=true) :
  dG 260 c h v1 v2 lo w (BN c { h with pos:=14 } { h with pos:=15 }):=by
 have T0:=fun W a b D=>tL c { h with pos:=14 } { h with pos:=15 } v1 v2 lo W a b hc D
 change ∀ W,_→_→_→Calls _ _ _ _ (fun r w'=>StepB W w' lo v1 v2 (BN c { h with pos:=14 } { h with pos:=15 }) r) at T0
 clear hc
 have n9:(h.pos == 9)=false:=by simp at hq ⊢;omega
 have a3:(h.pos == 10)=false:=by simp at hq ⊢;omega
 have a4:(h.pos == 11)=false:=by simp at hq ⊢;omega
 have a5:(h.pos == 12)=false:=by simp at hq ⊢;omega
 generalize BN c { h with pos:=14 } { h with pos:=15 }=x at *
 obtain ⟨R,X,U,Y,rfl,rfl,O1,O2,b1,b2⟩:=rR h1 h2
 clear h1 h2
 have T:=aA T0
 clear T0
 have o1:=O1.out
 have o2:=O2.out
 go_enter func260,ntmps260
 go_upto_region 14 with fail
 refine iT [[],[],[1],[],[3],[0,1,2,3,4],[0,1,2,3,4,5],[0,1,2,3,4,5],[0,1,2,3,4,5],[0,1,2,3,4,5,6],[0,1,2,3,4,5,7],[0,1,2,3,4,5,8]] [51,52,53,54,55,56,57,58,59,6] (fun l s E=>(jI (Value.slice R c.cells X).ownBlock (Value.slice U c.words Y).ownBlock w E)∧(w+1+1+1+1≤E.heap.size)∧(hp E w=some (.cells (aF c (.slice R c.cells X) (.slice U c.words Y)) 31))∧(hp E (w+1)=some (.cells (aB h) 49))∧(hp E (w+1+1)=some (.cells (cond (l 9) (aF x.1 (s 1003) (s 1004)) (aF Ch.zero (.slice none 0 0) (.slice none 0 0))) 31))∧(hp E (w+1+1+1)=some (.cells (cond (l 10) (aB x.2.1) (aB Ha.zero)) 49))∧(l 5=false→aD E lo (.slice R c.cells X) c.cells)∧(l 5=false→aG E lo (.slice U c.words Y) c.words)∧(l 0=true→s 51=.agg (aF c (.slice R c.cells X) (.slice U c.words Y)))∧(l 1=true→s 52=.agg (aB h))∧(l 2=true→s 53=.agg (aB ({ h with pos:=14 })))∧(l 3=true→s 54=.agg (aB h))∧(l 4=true→s 55=.agg (aB ({ h with pos:=15 })))∧(l 5=true→s 56=.tuple #[.agg (aF x.1 (s 1003) (s 1004)),.agg (aB x.2.1),.bool x.2.2]∧aD E lo (s 1003) x.1.cells∧aG E lo (s 1004) x.1.words∧fC w (.slice R c.cells X) (s 1003)∧fC w (.slice U c.words Y) (s 1004))∧(l 6=true→s 57=.agg (aF x.1 (s 1003) (s 1004)))∧(l 7=true→s 58=.agg (aB x.2.1))∧(l 8=true→s 59=.bool x.2.2)∧(l 11=true→s 6=.bool x.2.2)) (fun s=>⟨dR zB,by simp,by simp [go_sem, *],by simp [go_sem, *],by simp [go_sem, *],by simp [go_sem, *],fun _=>by exact zO o1 o1,fun _=>by exact zO o2 o2,nB,nB,nB,nB,nB,nB,nB,nB,nB,nB⟩) ?_ ?_
 refine ⟨?_,?_,?_,?_,?_,?_,?_,?_,?_,?_,?_,?_,trivial⟩;iterate 12 (intro l s E D z A m K H;rotate_left)
 ·intro l s E y m
  have I:=m.1
  have z1:=m.2.2.2.2.1
  have z2:=(jC m).2.1
  rw [y 9 rfl] at z1
  rw [y 10 rfl] at z2
  dsimp only [cond] at z1 z2
  obtain ⟨_,L,M,N,O⟩:=((jC (jD m)).2.1 (y 5 rfl))
  have ec:=((jE m).2 (y 11 rfl))
  simp only [ec]
  clear ec m y
  go_wp2
  exact bodyPost_ret (jZ results260 rfl (aO x.1 _ _ z1) rfl (aJ x.2.1 z2)) rfl ⟨⟨_,_,rfl,L,M,N,O⟩,I⟩
 ·have zc:=m.out.2.2.1
  go_simp
  refine H.out (upd s 51 (.agg (aF c (.slice R c.cells X) (.slice U c.words Y)))) _ _ (by simp [aC] <;> rfl) (kD (kX (fun _=>rfl) id) m.out)
 ·have zh:=m.out.2.2.2.1
  go_simp
  refine H.out (upd s 52 (.agg (aB h))) _ _ (by simp [aC] <;> rfl) (kD (kA (kX (fun _=>rfl) id)) m.out)
 ·have e1:=((jD m.out).2.1 (z 1 rfl))
  go_simp
  go_at_call 247
  refine (dL h 14 _).mono ?_
  rintro _ wy ⟨rfl,u⟩
  refine H.out (upd s 53 (.agg (aB ({ h with pos:=14 })))) _ _ (by simp [aC,e1] <;> rfl) (kX (gU m.out.1 (dR u)) (kX (Nat.le_trans m.out.2.1 (Below.size u)) (kX (eP m.out.2.2.1 u) (kX (eP m.out.2.2.2.1 u) (kX (eP m.out.2.2.2.2.1 u) (kX (eP (jC m.out).2.1 u) (kX (fun q=>own_below ((jC m.out).2.2.1 q) u) (kX (fun q=>own_below ((jC m.out).2.2.2.1 q) u) (kB (kX (fun _=>rfl) (kB (kX (nU (A 5 rfl)) (kX (nU (A 6 rfl)) (kX (nU (A 7 rfl)) (kX (nU (A 8 rfl)) (fun _=>nU (A 11 rfl)))))))))))))))) m.out)
 ·have zh:=m.out.2.2.2.1
  go_simp
  refine H.out (upd s 54 (.agg (aB h))) _ _ (by simp [aC] <;> rfl) (kD (kB (kA (kX (fun _=>rfl) id))) m.out)
 ·have e3:=((jD m.out).2.2.2.1 (z 3 rfl))
  go_simp
  go_at_call 247
  refine (dL h 15 _).mono ?_
  rintro _ wy ⟨rfl,u⟩
  refine H.out (upd s 55 (.agg (aB ({ h with pos:=15 })))) _ _ (by simp [aC,e3] <;> rfl) (kX (gU m.out.1 (dR u)) (kX (Nat.le_trans m.out.2.1 (Below.size u)) (kX (eP m.out.2.2.1 u) (kX (eP m.out.2.2.2.1 u) (kX (eP m.out.2.2.2.2.1 u) (kX (eP (jC m.out).2.1 u) (kX (fun q=>own_below ((jC m.out).2.2.1 q) u) (kX (fun q=>own_below ((jC m.out).2.2.2.1 q) u) (kC (kX (fun _=>rfl) (kX (nU (A 5 rfl)) (kX (nU (A 6 rfl)) (kX (nU (A 7 rfl)) (kX (nU (A 8 rfl)) (fun _=>nU (A 11 rfl))))))))))))))) m.out)
 ·have e0:=((jD m.out).1 (z 0 rfl))
  have e2:=((jD m.out).2.2.1 (z 2 rfl))
  have e4:=((jC (jD m.out)).1 (z 4 rfl))
  go_simp
  go_at_call 253
  refine (T.out _ ((jC m.out).2.2.1 D) ((jC m.out).2.2.2.1 D) (Nat.le_trans a0 m.out.1.2.2.2.1)).mono ?_
  rintro _ wy ⟨⟨y1,y2,rfl,L,M,N,O⟩,u⟩
  have I:=dR (a:=(Value.slice R c.cells X).ownBlock) (b:=(Value.slice U c.words Y).ownBlock) u
  refine H.out (upd (upd (upd s 1003 (y1)) 1004 (y2)) 56 (.tuple #[.agg (aF x.1 y1 y2),.agg (aB x.2.1),.bool x.2.2])) _ _ (by simp [aC,e0,e2,e4] <;> rfl) (kX (gU m.out.1 I) (kX (Nat.le_trans m.out.2.1 I.2.2.2.1) (kX (gW m.out.2.2.1 I ((jC m.out).2.2.1 D) ((jC m.out).2.2.2.1 D) (by decide) (by decide)) (kX (gW m.out.2.2.2.1 I ((jC m.out).2.2.1 D) ((jC m.out).2.2.2.1 D) (by decide) (by decide)) (kX (by (have Z:l 9=false:=A 9 rfl);(have F:=m.out.2.2.2.2.1);rw [Z] at F;rw [show upd l 5 true 9=false from Z];exact gW F I ((jC m.out).2.2.1 D) ((jC m.out).2.2.2.1 D) (by decide) (by decide)) (kX (by (have Z:l 10=false:=A 10 rfl);(have F:=(jC m.out).2.1);rw [Z] at F;rw [show upd l 5 true 10=false from Z];exact gW F I ((jC m.out).2.2.1 D) ((jC m.out).2.2.2.1 D) (by decide) (by decide)) (kX (fun q=>nU q (show upd l 5 true 5=true from rfl)) (kX (fun q=>nU q (show upd l 5 true 5=true from rfl)) (kC (kA (kX (fun _=>⟨rfl,L,M,fun j hj=>(N j hj).imp id (fun h=>Nat.le_trans m.out.1.2.2.2.1 h),fun j hj=>(O j hj).imp id (fun h=>Nat.le_trans m.out.1.2.2.2.1 h)⟩) (kX (nU (A 6 rfl)) (kX (nU (A 7 rfl)) (kX (nU (A 8 rfl)) (fun _=>nU (A 11 rfl))))))))))))))) m.out)
 ·have G:=((jC (jD m.out)).2.1 (z 5 rfl)).1
  go_simp
  refine H.out (upd s 57 (.agg (aF x.1 (s 1003) (s 1004)))) _ _ (by simp [aC,G] <;> rfl) (kD (kC (kB (kX (fun _=>rfl) id))) m.out)
 ·have G:=((jC (jD m.out)).2.1 (z 5 rfl)).1
  go_simp
  refine H.out (upd s 58 (.agg (aB x.2.1))) _ _ (by simp [aC,G] <;> rfl) (kD (kC (kB (kA (kX (fun _=>rfl) id)))) m.out)
 ·have G:=((jC (jD m.out)).2.1 (z 5 rfl)).1
  go_simp
  refine H.out (upd s 59 (.bool x.2.2)) _ _ (by simp [aC,G] <;> rfl) (kE (kX (fun _=>rfl) id) m.out)
 ·have e6:=((jC (jD m.out)).2.2.1 (z 6 rfl))
  have G:=((jC (jD m.out)).2.1 (z 5 rfl))
  have L:=G.2.1
  have M:=G.2.2.1
  clear G
  have J:=m.out.2.2.2.2.1
  rw [D] at J
  dsimp only [cond] at J
  obtain ⟨xa,xp,ea,_⟩:=L.seg
  obtain ⟨xb,xq,V,_⟩:=M.seg
  rw [ea,V] at e6
  have zn:hp (dF E (w+1+1) (aF x.1 (.slice xa x.1.cells xp) (.slice xb x.1.words xq))) (w+1+1)=some (.cells (aF x.1 (s 1003) (s 1004)) 31):=by rw [ea,V];exact ib J
  have I:=m.out.1
  go_simp
  refine H.out (s) _ _ (by simp [aC,e6,ea,V] <;> rfl) (kX (oX I tO) (kX (Nat.le_trans m.out.2.1 (Nat.le_of_eq aP.symm)) (kX ((aR tO).trans m.out.2.2.1) (kX ((aR tO).trans m.out.2.2.2.1) (kX (zn) (kX ((aR tO).trans (jC m.out).2.1) (kX (fun q=>nU q (show upd l 9 true 5=true from z 5 rfl)) (kX (fun q=>nU q (show upd l 9 true 5=true from z 5 rfl)) (kC (kA (kX (fun h=>(let ⟨e,L,M,N,O⟩:=(jC (jD m.out)).2.1 h;⟨e,dI L J (by decide),dI M J (by decide),N,O⟩)) id)))))))))) m.out)
 ·have e7:=((jC (jD m.out)).2.2.2.1 (z 7 rfl))
  have G:=((jC (jD m.out)).2.1 (z 5 rfl))
  have L:=G.2.1
  have M:=G.2.2.1
  clear G
  have J:=(jC m.out).2.1
  rw [D] at J
  dsimp only [cond] at J
  have zn:hp (dF E (w+1+1+1) (aB x.2.1)) (w+1+1+1)=some (.cells (aB x.2.1) 49):=by exact ib J
  have I:=m.out.1
  go_simp
  refine H.out (s) _ _ (by simp [aC,e7] <;> rfl) (kX (oX I tO) (kX (Nat.le_trans m.out.2.1 (Nat.le_of_eq aP.symm)) (kX ((aR tO).trans m.out.2.2.1) (kX ((aR tO).trans m.out.2.2.2.1) (kX ((aR tO).trans m.out.2.2.2.2.1) (kX (zn) (kX (fun q=>nU q (show upd l 10 true 5=true from z 5 rfl)) (kX (fun q=>nU q (show upd l 10 true 5=true from z 5 rfl)) (kC (kA (kX (fun h=>(let ⟨e,L,M,N,O⟩:=(jC (jD m.out)).2.1 h;⟨e,dI L J (by decide),dI M J (by decide),N,O⟩)) id)))))))))) m.out)
 ·have e8:=((jE m.out).1 (z 8 rfl))
  go_simp
  refine H.out (upd s 6 (.bool x.2.2)) _ _ (by simp [aC,e8] <;> rfl) (kE (kA (fun _=>fun _=>rfl)) m.out)
theorem Bv (c:Ch) (h:Ha) (v1 v2:Value) (lo:Nat) (w:World) (h1:aD w lo v1 c.cells) (h2:aG w lo v2 c.words) (a6:0≤h.cell) (a7:h.cell<c.cells.length) (hk:(h.code != 2)=false) (T:(h.pos == 14)=true) :
  dG 260 c h v1 v2 lo w ((cB c h.cell 7,eQ h 0,true)):=by
 obtain ⟨i,M⟩:∃ i:Nat,h.cell=(i:Int):=⟨h.cell.toNat,by omega⟩
 have hi:i<c.cells.length:=by omega
 have a9:(0:Int)≤(i:Int):=by omega
 have aa:(i:Int)<(c.cells.length:Int):=by omega
 have a1:=h1.ne h2
 obtain ⟨Z,q2,rfl,_⟩:=h2.seg
 obtain ⟨g,X,rfl,a5,y,q,a8⟩:=h1.open1 hi
 have O1:=aA h1
 have O2:=aA h2
 have z:g<w.heap.size+1:=by omega
 have A:g<w.heap.size+1+1:=by omega
 have D:g<w.heap.size+1+1+1:=by omega
 have aj:g≠w.heap.size:=by omega
 have ak:g≠w.heap.size+1:=by omega
 have al:g≠w.heap.size+1+1:=by omega
 have am:g≠w.heap.size+1+1+1:=by omega
 have ab:w.heap.size≠g:=by omega
 have ac:w.heap.size+1≠g:=by omega
 have ad:w.heap.size+1+1≠g:=by omega
 have ae:w.heap.size+1+1+1≠g:=by omega
 have hx:Hid (cellAt c h.cell=c.cells.getD i ⟨0,0,0⟩):=by simp [cellAt,Hid,M]
 have c0:=q 0 tO
 have c1:=q 1 tO
 have c2:=q 2 tO
 simp only [C3.val,Nat.add_zero] at c0 c1 c2
 rw [show cB c h.cell 7=cB c i 7 by rw [M]]
 have e1:=jK c i 7
 have P1:=fun W (o:aD W lo (.slice (some ⟨g,0,none⟩) c.cells X) c.cells)=>aD.setS o hi 7
 rw [← e1] at P1
 clear hx q h1 h2 e1
 generalize c.cells.getD i ⟨0,0,0⟩=x at *
 have o1:=O1.out
 have o2:=O2.out
 have n9:(h.pos == 9)=false:=by simp at T ⊢;omega
 have af:(h.pos == 10)=false:=by simp at T ⊢;omega
 have ag:(h.pos == 11)=false:=by simp at T ⊢;omega
 have ah:(h.pos == 12)=false:=by simp at T ⊢;omega
 have ai:(h.pos == 13)=false:=by simp at T ⊢;omega
 go_enter func260,ntmps260
 have P2:=aI (p:=⟨g,i*3,none⟩) o2 (a1 g rfl) (.int .i64 7)
 go_wp2_with fail
 go_region_held3 (fun w'=>hp w' w=some (.cells (aF c (.slice (some ⟨g,0,none⟩) c.cells X) (.slice Z c.words q2)) 31)∧hp w' (w+1)=some (.cells (aB h) 49))
  (first|(simp [*,go_sem]))
  (first|(go_at_call 264;refine (nC h 0 _).mono ?_;rintro _ w1 ⟨rfl,m⟩;have a4:Gr g w w1:=gT zG (rf m);have U:=m.size;(try (simp at U));have u:=hQ m (b:=w);(first|(simp [go_sem,O,V,y,z,A,D] at u)|(simp [go_sem,y,z,A,D] at u));(try clear a3 a0);(try clear O);have O:=u;clear u;(try clear V);obtain ⟨a3,a0,V⟩:=bO O;have u:=hQ m (b:=w+1);(first|(simp [go_sem,H,K,y,z,A,D] at u)|(simp [go_sem,y,z,A,D] at u));(try clear Y R);(try clear H);have H:=u;clear u;(try clear K);obtain ⟨Y,R,K⟩:=bO H;have u:=hQ m (b:=w+1+1);(first|(simp [go_sem,E,G,y,z,A,D] at u)|(simp [go_sem,y,z,A,D] at u));(try clear N L);(try clear E);have E:=u;clear u;(try clear G);obtain ⟨N,L,G⟩:=bO E;have u:=hQ m (b:=w+1+1+1);(first|(simp [go_sem,r,F,y,z,A,D] at u)|(simp [go_sem,y,z,A,D] at u));(try clear J I);(try clear r);have r:=u;clear u;(try clear F);obtain ⟨J,I,F⟩:=bO r;have p1:aD w1 lo (.slice (some ⟨g,0,none⟩) c.cells X) (cB c i 7).cells:=own_below (by exact zO (P1 _ o1) o1) m;have p2:aG w1 lo (.slice Z c.words q2) c.words:=own_below (zO P2 o2) m))
 go_wp2
 refine rE results260 rfl (aO (cB c i 7) (.slice (some ⟨g,0,none⟩) c.cells X) (.slice Z c.words q2) tZ) rfl (aJ (eQ h 0) (by simp [go_sem, *] <;> first|rfl|simp [eQ,M])) ⟨⟨_,_,rfl,?_,?_,aM _ _,aM _ _⟩,mY (show w.grownBy _ (some g) from zG)⟩
 ·show aD _ lo (.slice (some ⟨g,0,none⟩) c.cells X) (cB c i 7).cells
  exact zO p1 o1
 ·show aG _ lo (.slice Z c.words q2) c.words
  exact zO p2 o2
theorem Bw (c:Ch) (h:Ha) (v1 v2:Value) (lo:Nat) (w:World) (h1:aD w lo v1 c.cells) (h2:aG w lo v2 c.words) (a7:0≤h.cell) (a8:h.cell<c.cells.length) (G:eB h.code h.elem=true) (hk:(h.code != 2)=false) (U:(h.pos == 15)=true) :
  dG 260 c h v1 v2 lo w ((cB c h.cell 9,anew h,true)):=by
 obtain ⟨i,N⟩:∃ i:Nat,h.cell=(i:Int):=⟨h.cell.toNat,by omega⟩
 have hi:i<c.cells.length:=by omega
 have aa:(0:Int)≤(i:Int):=by omega
 have ab:(i:Int)<(c.cells.length:Int):=by omega
 have a3:=h1.ne h2
 obtain ⟨a2,q2,rfl,_⟩:=h2.seg
 obtain ⟨g,Z,rfl,a6,y,q,a9⟩:=h1.open1 hi
 have O1:=aA h1
 have O2:=aA h2
 have z:g<w.heap.size+1:=by omega
 have A:g<w.heap.size+1+1:=by omega
 have D:g<w.heap.size+1+1+1:=by omega
 have al:g≠w.heap.size:=by omega
 have am:g≠w.heap.size+1:=by omega
 have an:g≠w.heap.size+1+1:=by omega
 have ao:g≠w.heap.size+1+1+1:=by omega
 have ac:w.heap.size≠g:=by omega
 have ad:w.heap.size+1≠g:=by omega
 have ae:w.heap.size+1+1≠g:=by omega
 have af:w.heap.size+1+1+1≠g:=by omega
 have hx:Hid (cellAt c h.cell=c.cells.getD i ⟨0,0,0⟩):=by simp [cellAt,Hid,N]
 have c0:=q 0 tO
 have c1:=q 1 tO
 have c2:=q 2 tO
 simp only [C3.val,Nat.add_zero] at c0 c1 c2
 rw [show cB c h.cell 9=cB c i 9 by rw [N]]
 have e1:=jK c i 9
 have P1:=fun W (o:aD W lo (.slice (some ⟨g,0,none⟩) c.cells Z) c.cells)=>aD.setS o hi 9
 rw [← e1] at P1
 clear hx q h1 h2 e1
 generalize c.cells.getD i ⟨0,0,0⟩=x at *
 have o1:=O1.out
 have o2:=O2.out
 obtain ⟨y0,O⟩:∃ y0,anew h=y0:=⟨_,rfl⟩
 have AN:=aA fun W=>pX h G W
 rw [O] at AN
 rw [O]
 clear O G
 have n9:(h.pos == 9)=false:=by simp at U ⊢;omega
 have ag:(h.pos == 10)=false:=by simp at U ⊢;omega
 have ah:(h.pos == 11)=false:=by simp at U ⊢;omega
 have ai:(h.pos == 12)=false:=by simp at U ⊢;omega
 have aj:(h.pos == 13)=false:=by simp at U ⊢;omega
 have ak:(h.pos == 14)=false:=by simp at U ⊢;omega
 go_enter func260,ntmps260
 have P2:=aI (p:=⟨g,i*3,none⟩) o2 (a3 g rfl) (.int .i64 9)
 go_wp2_with fail
 go_region_held3 (fun w'=>hp w' w=some (.cells (aF c (.slice (some ⟨g,0,none⟩) c.cells Z) (.slice a2 c.words q2)) 31)∧hp w' (w+1)=some (.cells (aB h) 49))
  (first|(simp [*,go_sem]))
  (first|(go_at_call 250;refine (AN.out _).mono ?_;rintro _ w1 ⟨rfl,m⟩;have a5:Gr g w w1:=gT zG (rf m);have X:=m.size;(try (simp at X));have u:=hQ m (b:=w);(first|(simp [go_sem,T,Y,y,z,A,D] at u)|(simp [go_sem,y,z,A,D] at u));(try clear a4 a1);(try clear T);have T:=u;clear u;(try clear Y);obtain ⟨a4,a1,Y⟩:=bO T;have u:=hQ m (b:=w+1);(first|(simp [go_sem,I,L,y,z,A,D] at u)|(simp [go_sem,y,z,A,D] at u));(try clear a0 V);(try clear I);have I:=u;clear u;(try clear L);obtain ⟨a0,V,L⟩:=bO I;have u:=hQ m (b:=w+1+1);(first|(simp [go_sem,E,H,y,z,A,D] at u)|(simp [go_sem,y,z,A,D] at u));(try clear R M);(try clear E);have E:=u;clear u;(try clear H);obtain ⟨R,M,H⟩:=bO E;have u:=hQ m (b:=w+1+1+1);(first|(simp [go_sem,r,F,y,z,A,D] at u)|(simp [go_sem,y,z,A,D] at u));(try clear K J);(try clear r);have r:=u;clear u;(try clear F);obtain ⟨K,J,F⟩:=bO r;have p1:aD w1 lo (.slice (some ⟨g,0,none⟩) c.cells Z) (cB c i 9).cells:=own_below (by exact zO (P1 _ o1) o1) m;have p2:aG w1 lo (.slice a2 c.words q2) c.words:=own_below (zO P2 o2) m))
 go_wp2
 refine rE results260 rfl (aO (cB c i 9) (.slice (some ⟨g,0,none⟩) c.cells Z) (.slice a2 c.words q2) tZ) rfl (aJ y0 (by simp [go_sem, *] <;> first|rfl|simp [eQ,N])) ⟨⟨_,_,rfl,?_,?_,aM _ _,aM _ _⟩,mY (show w.grownBy _ (some g) from zG)⟩
 ·show aD _ lo (.slice (some ⟨g,0,none⟩) c.cells Z) (cB c i 9).cells
  exact zO p1 o1
 ·show aG _ lo (.slice a2 c.words q2) c.words
  exact zO p2 o2
theorem jY {c:Ch} {h:Ha}:mD (c,h,true)=done c h:=rfl
theorem xk {c:Ch} {m q:Int} {y z:Ha}:mD (uX c m q y z)=if bQ c y.cell y.seen m q then done (bK c y.cell y.seen m q) y else done (bK c y.cell y.seen m q) z:=by
 unfold uX
 cases r:bQ c y.cell y.seen m q with
 | true=>rfl
 | false=>rw [mo r];rfl
theorem mJ:mD nothing=nothing:=by simp [mD,nothing,aW,fO,Ch.zero]
theorem Ke {c:Ch} {w m:Int} (h:eY c w m=false):dM c w m=c:=by simp [dM,h]
theorem MS {c:Ch} {h:Ha}:mD (zw c 4 (eQ h 1) { h with pos:=10 })=done (fP c h 4 16 10).1 (rV (fP c h 4 16 10).2):=by
 unfold zw fP
 by_cases q:80≤c.words.length
 ·simp only [q,if_true];rfl
 ·simp only [q,if_false]
  cases m:bQ c h.cell h.seen 4 (c.words.length+1) with
  | true =>
   rw [show bQ c (eQ h 1).cell (eQ h 1).seen 4 (c.words.length+1)=true from m]
   simp only [if_true]
   rfl
  | false =>
   rw [show bQ c (eQ h 1).cell (eQ h 1).seen 4 (c.words.length+1)=false from m]
   simp only [Bool.false_eq_true,if_false]
   rw [mo m]
   rfl
theorem G8 (c:Ch) (h:Ha):mD (kW c h)=pO c h:=by
 unfold kW pO gX
 by_cases m:h.seen=2
 ·simp only [m,beq_self_eq_true,if_true,show ((2:Int) == 3)=false from rfl,Bool.false_eq_true,if_false]
  rw [xk]
  simp only [j6,m,eQ]
 by_cases u:h.seen=3
 ·have q:(h.seen == 2)=false:=by simpa using m
  have r:(h.seen == 3)=true:=by simpa using u
  simp only [q,r,if_true,Bool.false_eq_true,if_false]
  rw [xk]
  rfl
 ·have q:(h.seen == 2)=false:=by simpa using m
  have r:(h.seen == 3)=false:=by simpa using u
  simp only [q,r,Bool.false_eq_true,if_false]
  split
  ·exact mJ
  ·split
   ·rw [xk];rfl
   ·exact MS
theorem yu (c:Ch) (h:Ha) (J:aW c=true) (K:bM h=true):∃ x:St,eF c h=mD x∧∀ (m q:Value) (lo:Nat) (W:World),aD W lo m c.cells→aG W lo q c.words→lo≤W.heap.size→Calls prog 260 #[.agg (aF c m q),.agg (aB h)] W fun r w'=>dJ W w' lo m q x r:=by
 cases E:(h.code != 2) with
 | true =>
  have H:¬ h.code=2:=by simpa using E
  have I:bJ c h 9 15 2=false:=by simp [bJ,H]
  exact ⟨nothing,by rw [mJ];simp [eF,bL,I],fun m q lo W y z _=>Bp c h m q lo W y z E⟩
 | false =>
  have H:h.code=2:=by simpa using E
  obtain ⟨F,T⟩:=il K
  have G:h.cell<c.cells.length:=by have:=(kK J).1;omega
  by_cases V:9≤h.pos∧h.pos≤15
  ·have u:bJ c h 9 15 2=true:=by
    have:dA h.pos 9 15=true:=by simp [dA];omega
    simp [bJ,J,K,this,H]
   have D:eB h.code h.elem=true:=by
    have:=K
    simp only [bM,oV,Bool.and_eq_true,iP] at this
    have R:¬ h.pos=0:=by omega
    simp [R] at this
    exact this.1.2
   have M:h.pos=9∨h.pos=10∨h.pos=11∨h.pos=12∨h.pos=13∨h.pos=14∨h.pos=15:=by omega
   rcases M with hp|hp|hp|hp|hp|hp|hp
   ·refine ⟨Ea c h,?_,fun m q lo W y z _=>Eb c h m q lo W y z (Dt J) E (by simpa using hp)⟩
    by_cases O:c.got=40
    ·simp [eF,bL,u,hp,um,Ea,O,jY]
    ·simp [eF,bL,u,hp,um,Ea,O,jY]
   ·refine ⟨kV c h,?_,fun m q lo W y z _=>Bq c h m q lo W y z F G D E (by simpa using hp)⟩
    simp only [eF,bL,u,hp,uw,kV]
    by_cases h6:(cellAt c h.cell).s=6
    ·simp [h6,mD,J,K]
    ·cases X:(iY c h).2 with
     | true=>simp [h6,jY]
     | false=>simp [h6,mJ]
   ·refine ⟨(c,{ h with come:=c.sent,pos:=12 },true),?_,fun m q lo W y z _=>Br c h m q lo W y z E (by simpa using hp)⟩
    simp [eF,bL,u,hp,jY]
   ·refine ⟨kW c h,?_,fun m q lo W y z L=>Bt c h m q lo W y z F G J L E (by simpa using hp)⟩
    rw [G8]
    simp [eF,u,hp]
   ·refine ⟨BN c { h with pos:=14 } { h with pos:=15 },?_,fun m q lo W y z L=>Bu c h m q lo W y z J L E (by simpa using hp)⟩
    unfold BN
    cases N:eY c h.wait 1 with
    | true=>simp [eF,bL,u,hp,vJ,N,jY]
    | false=>simp [eF,bL,u,hp,vJ,N,jY,Ke N]
   ·refine ⟨(cB c h.cell 7,eQ h 0,true),?_,fun m q lo W y z _=>Bv c h m q lo W y z F G E (by simpa using hp)⟩
    simp [eF,bL,u,hp,jY]
   ·refine ⟨(cB c h.cell 9,anew h,true),?_,fun m q lo W y z _=>Bw c h m q lo W y z F G D E (by simpa using hp)⟩
    simp [eF,bL,u,hp,jY]
  ·have I:bJ c h 9 15 2=false:=by
    have:dA h.pos 9 15=false:=by simp [dA];omega
    simp [bJ,this]
   have A:∀ k:Int,9≤k→k≤15→(h.pos == k)=false:=fun k h1 U=>by simp;omega
   exact ⟨nothing,by rw [mJ];simp [eF,bL,I],fun m q lo W y z _=>yt c h m q lo W y z E (A 9 tO tO) (A 10 tO tO) (A 11 tO tO) (A 12 tO tO) (A 13 tO tO) (A 14 tO tO) (A 15 tO tO)⟩
theorem qW (c:Ch) (h:Ha) (a b:Option Addr) (p q:Nat) (w:World) (h1:fA w w a c.cells) (E:a=none→p=0) (D:fD w w b c.words) (F:b=none→q=0) (X:c.cells.length≤maxLen) (Y:c.words.length≤maxLen) :
  Calls prog 259 #[.agg (aF c (.slice a c.cells p) (.slice b c.words q)),.agg (aB h)] w fun r w'=>dE w w' (eF c h) r:=by
 have K:∀ (w:World),fA w w a c.cells→(a=none→p=0)→fD w w b c.words→(b=none→q=0)→Calls prog 236 #[.func (.func 260) #[] #[],.agg (aF c (.slice a c.cells p) (.slice b c.words q)),.agg (aB h)] w fun r w'=>dE w w' (eF c h) r:=by
  intro w h1 E D F
  cases G:aW c with
  | false =>
   rw [show eF c h=nothing by simp [eF,bL,bJ,G]]
   exact nE _ c h a b p q w h1 E D F X Y G
  | true =>
   cases J:bM h with
   | false =>
    rw [show eF c h=nothing by simp [eF,bL,bJ,J]]
    exact nG _ c h a b p q w h1 E D F X Y G J
   | true =>
    obtain ⟨x,e,HT⟩:=yu c h G J
    rw [e]
    exact nD _ x c h a b p q w h1 E D F G J (fun args w=>by simp [go_sem]) HT
 generalize eF c h=x at *
 have T:=aA K
 have H1:=aA h1
 have H2:=aA D
 have Z1:=aA E
 have Z2:=aA F
 clear h1 D E F K
 have U:∀ j,(Value.slice none 0 0).ownBlock=some j→w.heap.size+1+1+1+1≤j:=fun j hj=>by cases hj
 have d2:=U
 go_enter func259,ntmps259
 go_wp2_with fail;refine aK w zB fun I=>?_;refine (T.out _ (aT H1 I) Z1.out (aT H2 I) Z2.out).mono ?_;rintro _ Z ⟨⟨y1,y2,rfl,m,u,L,M⟩,y⟩;obtain ⟨V,H,R⟩:=fH I y (b:=w);(try simp at H);(try simp [go_sem] at R);replace bX:=dW R;clear R y I
 replace m:aD Z w y1 x.1.cells:=aH m (by simp;omega)
 replace u:aG Z w y2 x.1.words:=aH u (by simp;omega)
 obtain ⟨⟨z,A⟩,N,O⟩:=mW (w:=w) (w+1+1+1+1) L M U d2;obtain ⟨ya,yp,rfl,_⟩:=m.seg;obtain ⟨yb,yq,rfl,_⟩:=u.seg
 go_wp2
 refine rE results259 rfl (aO x.1 (.slice ya x.1.cells yp) (.slice yb x.1.words yq) tY) rfl (aJ x.2.1 tY) ⟨⟨_,_,rfl,?_,?_,N,O⟩,by exact zB⟩
 ·exact zP m m z
 ·exact zP u u A
end
section
open Go.RowKit
attribute [local simp] aP
attribute [local go_sem ↓] aQ aY aZ gK aN
attribute [local go_sem] fF
theorem oP (x:Wo):∀ k,(iW x k).length≤k
 | 0=>Nat.le_refl _
 | k+1=>by
  have:=oP x k
  unfold iW
  split
  ·simp;omega
  ·omega
theorem rM {x:Wo} {k:Nat} (h:pz x k=true):iW x (k+1)=iW x k ++ [(k:Int)]:=by simp [iW,h]
theorem zK {x:Wo} {k:Nat} (h:pz x k=false):iW x (k+1)=iW x k:=by simp [iW,h]
theorem qX (x:Wo) (a b d e:Option Addr) (p q r s:Nat) (w:World) (h1:fA w w a x.ch.cells) (z1:a=none→p=0) (h2:fD w w b x.ch.words) (z2:b=none→q=0) (h3:pF w w d x.hands) (h4:pG w w e x.deals) (m1:x.ch.cells.length≤1099511627776) (m3:x.hands.length≤1099511627776) (m4:x.deals.length≤1099511627776) :
  Calls prog 26 #[kZ x a b d e p q r s] w fun r' w'=>(∃ v,r'=.returned v∧aG w' w v (fT x))∧Below w w w':=by
 obtain ⟨i0,a2,a5,a6,a7⟩:=info_parts kL
 have H1:=aA h1
 have H2:=aA h2
 have H3:=aA h3
 have H4:=aA h4
 have Z1:=aA z1
 have Z2:=aA z2
 clear h1 h2 h3 h4 z1 z2
 cases V:bC x with
 | false =>
  have e0:fT x=[]:=by simp [fT,V]
  rw [e0]
  go_enter func26,ntmps26
  go_wp2_with fail
  refine aK w zB fun F=>?_
  refine (fG x a b d e p q r s _ (aT H1 F) (aT H2 F) (aT H3 F) (aT H4 F) m3 m4).mono ?_
  rintro _ Y ⟨rfl,u⟩
  rw [V]
  have o0:aG Y w _ []:=own_below (gJ _ _ _ _ (w+1) (by simp) (by simp)) u
  have T:Below w w Y:=bT F u
  have J:=u.size;(try simp at J);have G:=hQ u (b:=w);(try simp [go_sem] at G);(try clear m E D A);have m:=G;clear G;obtain ⟨E,D,A⟩:=bO m;clear u
  go_wp2
  go_ret
  exact ⟨⟨_,rfl,o0⟩,by exact zB⟩
 | true =>
  have e0:fT x=iW x x.hands:=by simp [fT,V]
  rw [e0]
  go_enter func26,ntmps26
  go_wp2_with fail
  refine aK w zB fun F=>?_
  refine (fG x a b d e p q r s _ (aT H1 F) (aT H2 F) (aT H3 F) (aT H4 F) m3 m4).mono ?_
  rintro _ Y ⟨rfl,u⟩
  rw [V]
  have o0:aG Y (w+1) _ []:=own_below (gJ _ _ _ _ (w+1) (by simp) (by simp)) u
  have T:Below w w Y:=bT F u
  have J:=u.size;(try simp at J);have G:=hQ u (b:=w);(try simp [go_sem] at G);(try clear m E D A);have m:=G;clear G;obtain ⟨E,D,A⟩:=bO m;clear u
  go_wp2
  go_loopw [3,4] (fun v i wr=>∃ k:Nat,k≤x.hands.length∧i=.int .i64 k∧aG wr (w+1) v (iW x k)∧hp wr w=some (.cells #[x.ch.cap,x.ch.sent,x.ch.got,x.ch.fin,.slice a x.ch.cells p,.slice b x.ch.words q,.slice d x.hands r,.slice e x.deals s,x.now] 35)∧w<wr.heap.size∧Below w w wr) (fun _ i _=>x.hands.length - (intOf i).toNat)
  case atStart=>exact ⟨0,Nat.zero_le _,rfl,o0,by simp [go_sem, *],by omega,T⟩
  case round =>
   obtain ⟨k,V,rfl,z,m,A,L⟩:=hrel
   clear E D
   have E:∀ o,wr.cell? ⟨w,o,none⟩=_:=fun o=>cell_of_row wr w o _ _ _ m
   have D:∀ o,wr.frozen? ⟨w,o,none⟩=false:=dH m
   by_cases a3:k<x.hands.length
   ·have a9:(0:Int)≤(k:Int):=by omega
    have aa:(k:Int)<(x.hands.length:Int):=by omega
    have ab:=oP x k
    have Z:=qQ x k a3 a b d e p q r s wr (H1.out.below L |>.more L.size) Z1.out (H2.out.below L |>.more L.size) Z2.out (H3.out.below L |>.more L.size) (H4.out.below L |>.more L.size) m1 m3 m4
    cases M:pz x k with
    | true =>
     rw [M] at Z
     go_wp2_with fail;refine aK w zB fun F=>?_;refine aK wr zB fun R=>?_;refine (Z).mono ?_;rintro _ N ⟨rfl,y⟩;have U:Below w w N:=bT F y;have K:=y.size;(try simp at K);have G:=hQ y (b:=w);(first|simp [go_sem,m,A] at G|simp [go_sem] at G|skip);(try clear m E D A);have m:=G;clear G;obtain ⟨E,D,A⟩:=bO m;have H:Below wr wr N:=bT R y;clear y F R
     replace z:=own_below z H
     go_wp2_with (at_builtin;refine wpList_append_own _ rfl _ _ 29 rfl (w.heap.size+1) 2 i0 _ 1 8 underlying29 a2 a5 a6 a7 rfl (by decide) _ _ _ rfl (z.alloc _) ⟨N,0,none⟩ 1 1 [.int .i64 k] rfl rfl (Hw _ _ _) (by simp [Value.oneCell']) ?c3 ?c4 ?c5 ?_)
     case c3=>unfold maxLen;omega
     case c4=>omega
     case c5=>simp;omega
     intro v4 w4 I hg _
     have X:=own_ne z (b:=w) tO
     have a8:hp w4 w=hp N w:=by
      refine (hg.block w (by simp;omega) (fun e=>X e.symm)).trans ?_
      exact Below.heap_alloc _ _ _ tO
     have a4:=hg.size
     simp at a4
     have a0:Below w w w4:=iN zB hg (by simp;omega) (fun q hq=>by have:=(z.lt q hq).1;omega)
     have O:aG w4 (w+1) v4 (iW x (k+1)):=by
      rw [rM M];exact aG.snoc I
     clear I hg X z
     go_wp2
     go_roundw
     case rel=>exact ⟨k+1,by omega,by go_num,O,a8.trans m,by omega,a0⟩
     case measure=>simp [intOf];omega
    | false =>
     rw [M] at Z
     go_wp2_with fail;refine aK w zB fun F=>?_;refine aK wr zB fun R=>?_;refine (Z).mono ?_;rintro _ N ⟨rfl,y⟩;have U:Below w w N:=bT F y;have K:=y.size;(try simp at K);have G:=hQ y (b:=w);(first|simp [go_sem,m,A] at G|simp [go_sem] at G|skip);(try clear m E D A);have m:=G;clear G;obtain ⟨E,D,A⟩:=bO m;have H:Below wr wr N:=bT R y;clear y F R
     replace z:=own_below z H
     have a1:Below w w N:=bT L H
     go_wp2
     go_roundw
     case rel=>exact ⟨k+1,by omega,by go_num,by rw [zK M];exact z,m,by omega,a1⟩
     case measure=>simp [intOf];omega
   ·have:k=x.hands.length:=by omega
    subst this
    go_wp2
    go_ret
    exact ⟨⟨_,rfl,aH z tO⟩,L⟩
end
section
open Go.ChangeShapes Go.WideShapes Go.ChangeAt Go.RowKit Go.Deep
theorem own:ownKnob Tryz.prog.godebug=none:=by kernel_rfl
theorem laidOut:laidOutB prog=true:=by kernel_rfl
section
variable {H:Type} {enc:TypeId × Value→H} {P:Program} {w:World} {spare:Nat→Bool} {held:Bool}
theorem Qa {α:Type} (k:Nat) (A:α→Nat→Value) (Q:α→Prop) (T:α) {t e:TypeId} (ht:P.underlying t=some (.slice e)) (Z:P.cellsOf e=k) (M:0<k)
  (J:∀ (q:Nat) (cs:List Value) (x:DataW H × List MemPlace),DataW.trod enc P w 0 spare held q e cs=some x→∃ c:α,Q c∧∀ j,j<k→cs[j]?=some (A c j))
  {q:Nat} {cs:List Value} {x:DataW H × List MemPlace} (h:DataW.trod enc P w 0 spare held q t cs=some x) :
  ∃ (a:Option Addr) (l:List α) (cap:Nat),cs=[.slice a l.length cap]∧l.length≤cap∧cap≤maxLen∧(∀ c ∈ l,Q c)∧Seg w w a l.length k (fun i j=>A (l.getD i T) j):=by
 rcases open_slice ht h with ⟨u,_⟩|⟨I,len,cap,m,n,D,Pl,u,_,hl,hm,N,_,Y⟩
 ·exact ⟨none,[],0,u,Nat.le_refl _,Nat.zero_le _,by simp,.inl rfl⟩
 ·have a0:len≤m:=by rw [N];split <;> omega
  have hx:∀ i:Nat,∃ c:α,i<len→(Q c∧∀ j,j<k→w.cell? (I.add (i*k+j))=some (A c j)):=by
   intro i
   by_cases r:i<len
   ·obtain ⟨V,F,O⟩:=Y i tO
    rw [Z] at F
    obtain ⟨_,_,K⟩:=World.cells?_some F
    obtain ⟨c,hq,hv⟩:=J _ _ _ O
    refine ⟨c,fun _=>⟨hq,fun j G=>?_⟩⟩
    rw [← Go.Deep.add_add,K j G,hv j G]
   ·exact ⟨T,fun h=>absurd h r⟩
  obtain ⟨g,L⟩:=Classical.axiomOfChoice hx
  refine ⟨some I,(List.range len).map g,cap,by simpa using u,by simpa using hl,hm,?_,?_⟩
  ·intro c F
   obtain ⟨i,y,rfl⟩:=List.mem_map.1 F
   exact (L i (List.mem_range.1 y)).1
  ·by_cases X:len=0
   ·exact .inl (by simpa using X)
   ·obtain ⟨b,R,E⟩:=I
    have U:=(L 0 tO).2 0 M
    have z:E=none:=by simpa [Addr.add] using World.cell?_spot U
    subst z
    refine .inr ⟨b,R,rfl,?_,fun i j y G=>?_⟩
    ·have:=block_lt_of_cell U
     simpa [Addr.add] using this
    ·have r:i<len:=by simpa using y
     have:=(L i r).2 j G
     rw [add_plain,← Nat.add_assoc] at this
     rw [this]
     simp [List.getD,r]
end
end
end Go.Proofs.YtffhjmepfojhnaaGreat
