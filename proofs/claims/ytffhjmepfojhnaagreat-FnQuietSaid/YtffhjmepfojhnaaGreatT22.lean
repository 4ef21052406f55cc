/-
  Turning a cell in chapter 7 of the reference model, on hands and channels that are kept whole; lists lie in memory and hold at most 2 ^ 40 elements.
-/
import Derived.Test.YtffhjmepfojhnaaGreatT05
import Derived.Test.YtffhjmepfojhnaaGreatT18
import Derived.Test.YtffhjmepfojhnaaGreatT15
import Derived.Test.YtffhjmepfojhnaaGreatT19
import Derived.Test.YtffhjmepfojhnaaGreatT20
import Derived.Test.YtffhjmepfojhnaaGreatT12
import Derived.Test.YtffhjmepfojhnaaGreatT03
set_option maxRecDepth 100000
set_option maxHeartbeats 4000000
set_option linter.unusedSimpArgs false
set_option linter.unusedVariables false
namespace Go.Proofs.YtffhjmepfojhnaaGreat
open _root_.Go.Proofs.Tryz
section
open Go.RowKit
attribute [local simp] dz
attribute [local go_sem ↓] dA fU dO gW dP gY dW fE bK eO
theorem Dt (c:Ch) (h:Ha) (G wt:Int) (F:Ha) (v1 v2:Value) (lo:Nat) (w:World) (h1:aF w lo v1 c.cells) (h2:aI w lo v2 c.words) (a8:0≤h.cell) (a9:h.cell<c.cells.length) :
    (∀ (ht:bB c h.cell h.seen G wt=true),Calls prog 215 #[.agg (aH c v1 v2),.agg (aB h),.int .i64 G,.int .i64 wt,.agg (aB F)] w fun r w'=>eB w w' lo v1 v2 (iF c h G wt F) r) ∧
    (∀ (ht:bB c h.cell h.seen G wt=false),Calls prog 215 #[.agg (aH c v1 v2),.agg (aB h),.int .i64 G,.int .i64 wt,.agg (aB F)] w fun r w'=>eB w w' lo v1 v2 (iF c h G wt F) r):=by
  constructor
  case' left =>
    intro ht;have mA:Hid (0=0):=rfl
  case' right =>
    intro ht;have mB:Hid (0=0):=rfl
  all_goals
    obtain ⟨i,U⟩:∃ i:Nat,h.cell=(i:Int):=⟨h.cell.toNat,by omega⟩;have hi:i<c.cells.length:=tO
    first
    | (replace mA:=mA
       have J:bB c i h.seen G wt=true:=by rw [← ht];simp [*]
       have e:iF c h G wt F=done (bU c i h.seen G wt) (F):=by simp [iF,U,J])
    | (replace mB:=mB
       have J:bB c i h.seen G wt=false:=by rw [← ht];simp [*]
       have e:iF c h G wt F=done (bU c i h.seen G wt) ({ h with pos:=10,cell:=(i:Int) }):=by simp [iF,U,J])
    rw [e];have T:=aA fun W a b=>lM c i h.seen G wt v1 v2 lo W a b hi
    first
    | (replace mA:=mA
       have D:=aA fun W=>bV (bU c i h.seen G wt) (F) v1 v2 lo W
       generalize done (bU c i h.seen G wt) (F)=x at *)
    | (replace mB:=mB
       have D:=aA fun W=>bV (bU c i h.seen G wt) ({ h with pos:=10,cell:=(i:Int) }) v1 v2 lo W
       generalize done (bU c i h.seen G wt) ({ h with pos:=10,cell:=(i:Int) })=x at *)
    rw [J] at T;have b1:=nC h1;have b2:=nC h2;have Y:=sH b1;have Z:=sH b2;have aa:=Y (w.heap.size) tO;have af:=Z (w.heap.size) tO;have ab:=Y (w+1) tO;have ag:=Z (w+1) tO;have ac:=Y (w+1+1) tO;have ah:=Z (w+1+1) tO;have ad:=Y (w+1+1+1) tO;have ai:=Z (w+1+1+1) tO;have ae:=Y (w+1+1+1+1) tO;have aj:=Z (w+1+1+1+1) tO;have o1:=h1;have o2:=h2;obtain ⟨a1,q1,e1,_⟩:=h1.seg;obtain ⟨a2,q2,e2,_⟩:=h2.seg;subst e1 e2
    clear h1 h2 e ht;go_enter func215,ntmps215;go_wp2_with fail;refine (T.out _ (zO o1 o1) (zO o2 o2)).mono ?_;rintro _ w1 ⟨rfl,p1,p2,I⟩;have V:=I.size;(try (simp at V));have K:=WL I (b:=w);(try simp [go_sem] at K);replace bX:=ng K;clear K;have R:=NT (w:=w) zB I;clear I;have a6:ni (Value.slice a1 c.cells q1).ownBlock (Value.slice a2 c.words q2).ownBlock w w1:=rA R;obtain ⟨k0,k1,k2,k3⟩:=pz (a:=w) (b:=w1)
    have k4:w+1+1+1+1<w1.heap.size:=tO;have r1:aF w1 lo (.slice a1 c.cells q1) (bU c i h.seen G wt).cells:=p1;have r2:aI w1 lo (.slice a2 c.words q2) (bU c i h.seen G wt).words:=p2;go_wp2_with fail;refine (D.out _ (zO r1 o1) (zO r2 o2)).mono ?_;rintro _ w3 ⟨⟨y1,y2,rfl,N,O,a0,a3⟩,H⟩;have a7:ni (Value.slice a1 c.cells q1).ownBlock (Value.slice a2 c.words q2).ownBlock w w3:=kv zN (gy H);have X:=H.size;(try simp at X);have K:=Xa H (b:=w);(first|simp [go_sem,bX,k0,k1,k2,k3,k4] at K|simp [go_sem] at K|skip);replace bX:=ng K;clear K H
    obtain ⟨⟨L,M⟩,a4,a5⟩:=sO (w:=w) (w+1+1+1+1+1) a0 a3 b1 b2;obtain ⟨ya,yp,rfl,_⟩:=N.seg;obtain ⟨yb,yq,rfl,_⟩:=O.seg;go_wp2;refine rE results215 rfl (bN x.1 (.slice ya x.1.cells yp) (.slice yb x.1.words yq) tY) rfl (aQ x.2.1 tY) ⟨⟨_,_,rfl,?_,?_,a4,a5⟩,zN⟩
    · exact zP N N L
    · exact zP O O M
theorem Qb (c:Ch) (h:Ha) (G wt:Int) (F:Ha) (v1 v2:Value) (lo:Nat) (w:World) (h1:aF w lo v1 c.cells) (h2:aI w lo v2 c.words) (H:0≤h.cell) (I:h.cell<c.cells.length) (ht:bB c h.cell h.seen G wt=true) :
    Calls prog 215 #[.agg (aH c v1 v2),.agg (aB h),.int .i64 G,.int .i64 wt,.agg (aB F)] w fun r w'=>eB w w' lo v1 v2 (iF c h G wt F) r:=(Dt c h G wt F v1 v2 lo w h1 h2 H I).1 ht
theorem Qc (c:Ch) (h:Ha) (G wt:Int) (F:Ha) (v1 v2:Value) (lo:Nat) (w:World) (h1:aF w lo v1 c.cells) (h2:aI w lo v2 c.words) (H:0≤h.cell) (I:h.cell<c.cells.length) (ht:bB c h.cell h.seen G wt=false) :
    Calls prog 215 #[.agg (aH c v1 v2),.agg (aB h),.int .i64 G,.int .i64 wt,.agg (aB F)] w fun r w'=>eB w w' lo v1 v2 (iF c h G wt F) r:=(Dt c h G wt F v1 v2 lo w h1 h2 H I).2 ht
theorem wG (c:Ch) (h:Ha) (I wt:Int) (F:Ha) (v1 v2:Value) (lo:Nat) (w:World) (h1:aF w lo v1 c.cells) (h2:aI w lo v2 c.words) (G:0≤h.cell) (H:h.cell<c.cells.length) :
    Calls prog 215 #[.agg (aH c v1 v2),.agg (aB h),.int .i64 I,.int .i64 wt,.agg (aB F)] w fun r w'=>eB w w' lo v1 v2 (iF c h I wt F) r:=by
  cases ht:bB c h.cell h.seen I wt with
  | true=>exact Qb c h I wt F v1 v2 lo w h1 h2 G H ht
  | false=>exact Qc c h I wt F v1 v2 lo w h1 h2 G H ht
theorem Qd (c:Ch) (h:Ha) (v1 v2:Value) (lo:Nat) (w:World) (h1:aF w lo v1 c.cells) (h2:aI w lo v2 c.words) (F:0≤h.cell) (G:h.cell<c.cells.length) (hs:h.seen=2) :
  ed 205 c h v1 v2 lo w (fZ c h):=by
 have e:fZ c h=iF c h 7 0 (dL h 0):=by simp [fZ,hs]
 rw [e];have K:=aA fun W a b=>wG c h 7 0 (dL h 0) v1 v2 lo W a b F G
 generalize iF c h 7 0 (dL h 0)=x at *;exact V4
theorem AP (c:Ch) (h:Ha) (v1 v2:Value) (lo:Nat) (w:World) (h1:aF w lo v1 c.cells) (h2:aI w lo v2 c.words) (G:0≤h.cell) (H:h.cell<c.cells.length) (I:h.cell<h.come) (F:h.seen=0∨h.seen=1) :
  ed 205 c h v1 v2 lo w (fZ c h):=by
 rcases F with hs|hs
 all_goals
  have e:fZ c h=iF c h 8 0 (dL h 2):=by simp [fZ,hs,I]
  rw [e];have K:=aA fun W a b=>wG c h 8 0 (dL h 2) v1 v2 lo W a b G H
  generalize iF c h 8 0 (dL h 2)=x at *;exact V4
theorem MI (c:Ch) (h:Ha) (v1 v2:Value) (lo:Nat) (w:World) (h1:aF w lo v1 c.cells) (h2:aI w lo v2 c.words) (F:0≤h.cell) (G:h.cell<c.cells.length) (hs:h.seen=0) (H:h.cell<h.come) :
  Calls prog 205 #[.agg (aH c v1 v2),.agg (aB h)] w fun r w'=>eB w w' lo v1 v2 (fZ c h) r:=AP c h v1 v2 lo w h1 h2 F G H (.inl hs)
theorem MJ (c:Ch) (h:Ha) (v1 v2:Value) (lo:Nat) (w:World) (h1:aF w lo v1 c.cells) (h2:aI w lo v2 c.words) (F:0≤h.cell) (G:h.cell<c.cells.length) (hs:h.seen=1) (H:h.cell<h.come) :
  Calls prog 205 #[.agg (aH c v1 v2),.agg (aB h)] w fun r w'=>eB w w' lo v1 v2 (fZ c h) r:=AP c h v1 v2 lo w h1 h2 F G H (.inr hs)
theorem Qe (c:Ch) (h:Ha) (v1 v2:Value) (lo:Nat) (w:World) (h1:aF w lo v1 c.cells) (h2:aI w lo v2 c.words) (V:0≤h.cell) (X:h.cell<c.cells.length) (hs:(h.seen == 3)=true) (Y:(h.seen == 2)=false) :
  ed 205 c h v1 v2 lo w (fZ c h):=by
 have e:fZ c h=iF c h 5 h.wait ({ h with pos:=13 }):=by simp at hs Y;simp [fZ,hs]
 rw [e];have K:=aA fun W a b=>wG c h 5 h.wait ({ h with pos:=13 }) v1 v2 lo W a b V X
 generalize iF c h 5 h.wait ({ h with pos:=13 })=x at *;have b1:=nC h1;have b2:=nC h2;have M:=sH b1;have N:=sH b2;have a3:=M (w.heap.size) tO;have a7:=N (w.heap.size) tO;have a4:=M (w+1) tO;have a8:=N (w+1) tO;have a5:=M (w+1+1) tO;have a9:=N (w+1+1) tO;have a6:=M (w+1+1+1) tO;have aa:=N (w+1+1+1) tO;have o1:=h1;have o2:=h2;obtain ⟨a1,q1,e1,_⟩:=h1.seg;obtain ⟨a2,q2,e2,_⟩:=h2.seg;subst e1 e2;clear h1 h2 e
 go_enter func205,ntmps205
 go_wp2_with fail;refine (K.out _ (zO o1 o1) (zO o2 o2)).mono ?_
 rintro _ w3 ⟨⟨y1,y2,rfl,H,I,O,R⟩,L⟩;have J:=L.2.2.2.1;(try (simp at J));have Z:=QU L (b:=w);(try simp [go_sem] at Z);replace bX:=fP Z;clear Z;have a0:ni (Value.slice a1 c.cells q1).ownBlock (Value.slice a2 c.words q2).ownBlock w w3:=kv (gy zB) L;clear L;obtain ⟨⟨F,G⟩,T,U⟩:=sO (w:=w) (w+1+1+1+1) O R b1 b2;obtain ⟨ya,yp,rfl,_⟩:=H.seg;obtain ⟨yb,yq,rfl,_⟩:=I.seg;go_wp2;refine rE results205 rfl (bN x.1 (.slice ya x.1.cells yp) (.slice yb x.1.words yq) tY) rfl (aQ x.2.1 tY) ⟨⟨_,_,rfl,?_,?_,T,U⟩,zN⟩
 ·exact zP H H F
 ·exact zP I I G
theorem MK (c:Ch) (h:Ha) (v1 v2:Value) (lo:Nat) (w:World) (h1:aF w lo v1 c.cells) (h2:aI w lo v2 c.words) (hs:(h.seen == 2)=false) (K:(h.seen == 3)=false) (L:(h.seen != 0)=true) (M:(h.seen != 1)=true) :
  ed 205 c h v1 v2 lo w (fZ c h):=by
 have e:fZ c h=nothing:=by simp at hs K L M;simp [fZ,hs,K,L,M]
 rw [e];have T:=aA (jL · lo v1 v2);generalize nothing=x at *;have b1:=nC h1;have b2:=nC h2;have O:=sH b1;have R:=sH b2;have a3:=O (w.heap.size) tO;have a7:=R (w.heap.size) tO;have a4:=O (w+1) tO;have a8:=R (w+1) tO;have a5:=O (w+1+1) tO;have a9:=R (w+1+1) tO;have a6:=O (w+1+1+1) tO;have aa:=R (w+1+1+1) tO;have o1:=h1;have o2:=h2;obtain ⟨a1,q1,e1,_⟩:=h1.seg;obtain ⟨a2,q2,e2,_⟩:=h2.seg;subst e1 e2;clear h1 h2 e
 go_enter func205,ntmps205
 go_wp2_with fail;refine aK w zB fun bb=>?_;refine (T.out _).mono ?_;rintro _ w1 ⟨⟨y1,y2,rfl,I,J,U,V⟩,F⟩;obtain ⟨a0,N,Z⟩:=gZ bb F (b:=w);(try simp at N);(try simp [go_sem] at Z);replace bX:=fP Z;clear Z F bb
 obtain ⟨⟨G,H⟩,X,Y⟩:=sO (w:=w) (w+1+1+1+1) U V b1 b2;obtain ⟨ya,yp,rfl,_⟩:=I.seg;obtain ⟨yb,yq,rfl,_⟩:=J.seg;go_wp2;refine rE results205 rfl (bN x.1 (.slice ya x.1.cells yp) (.slice yb x.1.words yq) tY) rfl (aQ x.2.1 tY) ⟨⟨_,_,rfl,?_,?_,X,Y⟩,gy zB⟩
 ·exact zP I I G
 ·exact zP J J H
theorem yP (c:Ch) (h:Ha) (v1 v2:Value) (lo:Nat) (w:World) (h1:aF w lo v1 c.cells) (h2:aI w lo v2 c.words) (K:lo≤w.heap.size) (H:0≤h.cell) (J:h.cell<c.cells.length) :
  (∀ (hs:h.seen=0) (hx:h.come≤h.cell) (F:((fA c h 4 16 10).2.pos == 16)=true),Calls prog 205 #[.agg (aH c v1 v2),.agg (aB h)] w fun r w'=>eB w w' lo v1 v2 (fZ c h) r) ∧
  (∀ (hs:h.seen=1) (hx:h.come≤h.cell) (F:((fA c h 4 16 10).2.pos == 16)=true),Calls prog 205 #[.agg (aH c v1 v2),.agg (aB h)] w fun r w'=>eB w w' lo v1 v2 (fZ c h) r):=by
 constructor
 case' left =>
  intro hs hx F;have R:Hid (0=0):=rfl
 case' right =>
  intro hs hx F;have U:Hid (0=0):=rfl
 all_goals
  have e:fZ c h=done (fA c h 4 16 10).1 (oH (fA c h 4 16 10).2):=by simp [fZ,hs,show ¬ h.cell<h.come by omega]
  rw [e];have T:=aA fun W a b=>wh c h 4 16 10 v1 v2 lo W a b H J
  have I:=aA (wm c h 4 16 10);generalize fA c h 4 16 10=y at *;have G:oH y.2={ y.2 with nxt:=1 }:=by simp at F;simp [oH,F]
  rw [G];clear G;have D:=aA fun v3 W=>bV y.1 ({ y.2 with nxt:=1 }) v1 v3 lo W
  generalize done y.1 ({ y.2 with nxt:=1 })=x at *;have b1:=nC h1;have b2:=nC h2;have m1:=sH b1;have m2:=sH b2;have L:=m1 (w.heap.size) tO;have N:=m2 (w.heap.size) tO;have M:=m1 (w+1) tO;have O:=m2 (w+1) tO;exact Ue
theorem JF (c:Ch) (h:Ha) (v1 v2:Value) (lo:Nat) (w:World) (h1:aF w lo v1 c.cells) (h2:aI w lo v2 c.words) (H:lo≤w.heap.size) (F:0≤h.cell) (G:h.cell<c.cells.length) (hs:h.seen=0) (I:h.come≤h.cell) (J:((fA c h 4 16 10).2.pos == 16)=true) :
  Calls prog 205 #[.agg (aH c v1 v2),.agg (aB h)] w fun r w'=>eB w w' lo v1 v2 (fZ c h) r:=(yP c h v1 v2 lo w h1 h2 H F G).1 hs I J
theorem JG (c:Ch) (h:Ha) (v1 v2:Value) (lo:Nat) (w:World) (h1:aF w lo v1 c.cells) (h2:aI w lo v2 c.words) (H:lo≤w.heap.size) (F:0≤h.cell) (G:h.cell<c.cells.length) (hs:h.seen=1) (I:h.come≤h.cell) (J:((fA c h 4 16 10).2.pos == 16)=true) :
  Calls prog 205 #[.agg (aH c v1 v2),.agg (aB h)] w fun r w'=>eB w w' lo v1 v2 (fZ c h) r:=(yP c h v1 v2 lo w h1 h2 H F G).2 hs I J
theorem yQ (c:Ch) (h:Ha) (v1 v2:Value) (lo:Nat) (w:World) (h1:aF w lo v1 c.cells) (h2:aI w lo v2 c.words) (K:lo≤w.heap.size) (H:0≤h.cell) (J:h.cell<c.cells.length) :
  (∀ (hs:h.seen=0) (hx:h.come≤h.cell) (F:((fA c h 4 16 10).2.pos == 16)=false),Calls prog 205 #[.agg (aH c v1 v2),.agg (aB h)] w fun r w'=>eB w w' lo v1 v2 (fZ c h) r) ∧
  (∀ (hs:h.seen=1) (hx:h.come≤h.cell) (F:((fA c h 4 16 10).2.pos == 16)=false),Calls prog 205 #[.agg (aH c v1 v2),.agg (aB h)] w fun r w'=>eB w w' lo v1 v2 (fZ c h) r):=by
 constructor
 case' left =>
  intro hs hx F;have R:Hid (0=0):=rfl
 case' right =>
  intro hs hx F;have U:Hid (0=0):=rfl
 all_goals
  have e:fZ c h=done (fA c h 4 16 10).1 (oH (fA c h 4 16 10).2):=by simp [fZ,hs,show ¬ h.cell<h.come by omega]
  rw [e];have T:=aA fun W a b=>wh c h 4 16 10 v1 v2 lo W a b H J
  have I:=aA (wm c h 4 16 10);generalize fA c h 4 16 10=y at *;have G:oH y.2=y.2:=by simp at F;simp [oH,F]
  rw [G];clear G;have D:=aA fun v3 W=>bV y.1 (y.2) v1 v3 lo W
  generalize done y.1 (y.2)=x at *;have b1:=nC h1;have b2:=nC h2;have m1:=sH b1;have m2:=sH b2;have L:=m1 (w.heap.size) tO;have N:=m2 (w.heap.size) tO;have M:=m1 (w+1) tO;have O:=m2 (w+1) tO;exact Ue
theorem JH (c:Ch) (h:Ha) (v1 v2:Value) (lo:Nat) (w:World) (h1:aF w lo v1 c.cells) (h2:aI w lo v2 c.words) (H:lo≤w.heap.size) (F:0≤h.cell) (G:h.cell<c.cells.length) (hs:h.seen=0) (I:h.come≤h.cell) (J:((fA c h 4 16 10).2.pos == 16)=false) :
  Calls prog 205 #[.agg (aH c v1 v2),.agg (aB h)] w fun r w'=>eB w w' lo v1 v2 (fZ c h) r:=(yQ c h v1 v2 lo w h1 h2 H F G).1 hs I J
theorem JI (c:Ch) (h:Ha) (v1 v2:Value) (lo:Nat) (w:World) (h1:aF w lo v1 c.cells) (h2:aI w lo v2 c.words) (H:lo≤w.heap.size) (F:0≤h.cell) (G:h.cell<c.cells.length) (hs:h.seen=1) (I:h.come≤h.cell) (J:((fA c h 4 16 10).2.pos == 16)=false) :
  Calls prog 205 #[.agg (aH c v1 v2),.agg (aB h)] w fun r w'=>eB w w' lo v1 v2 (fZ c h) r:=(yQ c h v1 v2 lo w h1 h2 H F G).2 hs I J
theorem JJ (c:Ch) (h:Ha) (v1 v2:Value) (lo:Nat) (w:World) (h1:aF w lo v1 c.cells) (h2:aI w lo v2 c.words) (H:lo≤w.heap.size) (F:0≤h.cell) (G:h.cell<c.cells.length) :
  ed 205 c h v1 v2 lo w (fZ c h):=by
 by_cases M:h.seen=2
 ·exact Qd c h v1 v2 lo w h1 h2 F G M
 ·by_cases N:h.seen=3
  ·exact Qe c h v1 v2 lo w h1 h2 F G (by simpa using N) (by simpa using M)
  ·by_cases J:h.seen=0
   ·by_cases L:h.cell<h.come
    ·exact MI c h v1 v2 lo w h1 h2 F G J L
    ·cases I:(fA c h 4 16 10).2.pos == 16 with
     | true=>exact JF c h v1 v2 lo w h1 h2 H F G J tO I
     | false=>exact JH c h v1 v2 lo w h1 h2 H F G J tO I
   ·by_cases K:h.seen=1
    ·by_cases L:h.cell<h.come
     ·exact MJ c h v1 v2 lo w h1 h2 F G K L
     ·cases I:(fA c h 4 16 10).2.pos == 16 with
      | true=>exact JG c h v1 v2 lo w h1 h2 H F G K tO I
      | false=>exact JI c h v1 v2 lo w h1 h2 H F G K tO I
    ·exact MK c h v1 v2 lo w h1 h2 (by simpa using M) (by simpa using N) yw (by simpa using K)
end
section
open Go.RowKit
theorem ML {x:Wo} (h:dB x=true):0≤x.now∧x.now≤20000:=by
 simp [dB,jH,dV] at h;omega
theorem Eb (x:Wo) (who:Int) (a b d e:Option Addr) (p q r s:Nat) (w:World) (h1:gG w w a x.ch.cells) (z1:a=none→p=0) (h2:gI w w b x.ch.words) (L:b=none→q=0) (h3:qX w w d x.hands) (M:d=none→x.hands.length=0∧r=0) (F:uh w w e x.deals) (N:e=none→x.deals.length=0∧s=0) (H:x.ch.cells.length≤1099511627776) (I:x.ch.words.length≤1099511627776) (J:x.hands.length≤1099511627776) (K:x.deals.length≤1099511627776) :
  Calls prog 22 #[oI x a b d e p q r s,.int .i64 who] w fun r w'=>ig w w' (stopped x who).1 (.bool (stopped x who).2) r:=by
 cases G:dB x with
 | false=>exact GK x who a b d e p q r s w h1 z1 h2 L h3 M F N H I J K G
 | true =>
  cases ht:bW x who with
  | false=>exact GL x who a b d e p q r s w h1 z1 h2 L h3 M F N H I J K G ht
  | true =>
   cases hp:(aJ x who).pos != 23 with
   | true=>exact GM x who a b d e p q r s w h1 z1 h2 L h3 M F N H I J K G ht hp
   | false=>exact J6 x who a b d e p q r s w h1 z1 h2 L h3 M F N H I J K G ht hp
theorem JK (x:Wo) (who F ee:Int) (a b d e:Option Addr) (p q r s:Nat) (w:World) (h1:gG w w a x.ch.cells) (z1:a=none→p=0) (h2:gI w w b x.ch.words) (M:b=none→q=0) (h3:qX w w d x.hands) (N:d=none→x.hands.length=0∧r=0) (H:uh w w e x.deals) (O:e=none→x.deals.length=0∧s=0) (I:x.ch.cells.length≤1099511627776) (J:x.ch.words.length≤1099511627776) (K:x.hands.length≤1099511627776) (L:x.deals.length≤1099511627776) :
  Calls prog 132 #[oI x a b d e p q r s,.int .i64 who,.agg #[.int .i64 F,.int .i64 ee]] w fun r w'=>ig w w' (asked x who F ee).1 (.int .i64 (asked x who F ee).2) r:=by
 cases G:dB x with
 | false=>exact M6 x who F ee a b d e p q r s w h1 z1 h2 M h3 N H O I J K L G
 | true =>
  cases ht:bW x who with
  | false=>exact M7 x who F ee a b d e p q r s w h1 z1 h2 M h3 N H O I J K L G ht
  | true =>
   cases hc:(called (aJ x who) F ee).2 != 0 with
   | true=>exact Jr x who F ee a b d e p q r s w h1 z1 h2 M h3 N H O I J K L G ht hc
   | false =>
    cases R:x.now == 20000 with
    | true=>exact Js x who F ee a b d e p q r s w h1 z1 h2 M h3 N H O I J K L G ht hc R
    | false=>exact PW x who F ee a b d e p q r s w h1 z1 h2 M h3 N H O I J K L G ht hc R (ML G)
theorem JL (x:Wo):dB x=(((aN x.ch && dV x.now 0 20000) && rR x.hands x.now) && wo x.deals x.hands x.now):=by
 unfold dB jH rR wo;cases aN x.ch <;> cases dV x.now 0 20000 <;> cases decide (1≤x.hands.length) <;> cases decide (x.hands.length≤6) <;> cases decide (x.deals.length≤1000) <;> simp
theorem Ec (x:Wo) (a b d e:Option Addr) (p q r s:Nat) (w:World) (h:lX w w x a b d e) (m:qi x) :
  Calls prog 49 #[oI x a b d e p q r s] w fun r w'=>r=.returned (.bool (dB x))∧Below w w w':=by
 rw [JL];obtain ⟨h1,h2,h3,R⟩:=h;obtain ⟨m1,m2,m3,m4⟩:=m;have X:=aA h1;have Y:=aA h2;have Z:=aA h3;have H4:=aA R;have M1:x.ch.cells.length≤maxLen:=by unfold maxLen;omega
 have M2:x.ch.words.length≤maxLen:=by unfold maxLen;omega
 have O:x.hands.length≤1099511627776:=tO;have M4:x.deals.length≤1099511627776:=tO;clear h1 h2 h3 R m1 m2 m3 m4;go_enter func49,ntmps49
 go_wp2_with (first
  | (go_at_call 98;refine aK w zB fun J=>?_;refine (iY x.ch a b p q _ (aT X J) (aT Y J) M1 M2).mono ?_;rintro _ w1 ⟨rfl,F⟩;have T:=bT J F;have K:=F.size;(try simp at K);have I:=sJ F (b:=w);(try simp [go_sem] at I);replace N:=I;clear I F J)
  | (go_at_call 45;refine (jh _ _ _).mono ?_;rintro _ _ ⟨rfl,rfl⟩)
  | (go_at_call 99;refine aK w zB fun J=>?_;refine (Gt x.hands x.now w d r _ (by simp [*]) (by simp [*]) tS (aT Z J) O).mono ?_;rintro _ w2 ⟨rfl,G⟩;have U:=bT J G;have L:=G.size;(try simp at L);have I:=sJ G (b:=w);(first|simp [go_sem,N] at I|simp [go_sem] at I|skip);replace N:=I;clear I G J)
  | (go_at_call 100;refine aK w zB fun J=>?_;refine (Gu x.deals x.hands x.now w d e r s _ (by simp [*]) (by simp [*]) (by simp [*]) tS (aT H4 J) M4 O).mono ?_;rintro _ w3 ⟨rfl,H⟩;have V:=bT J H;have M:=H.size;(try simp at M);have I:=sJ H (b:=w);(first|simp [go_sem,N] at I|simp [go_sem] at I|skip);replace N:=I;clear I H J))
 all_goals go_ret
 all_goals exact ⟨bQ (by simp [*]),zB⟩
end
section
def MW (c:Ch) (h:Ha) (s:St):Prop:=s.2.2=true→c.words.length≤s.1.words.length∧(24≤s.2.1.pos→jR c h.mine=true∧s.2.1.mine=h.mine)
theorem jo {c:Ch} {h:Ha}:MW c h nothing:=fun e=>by cases e
theorem Ed {c:Ch} {h:Ha} {c':Ch} {h':Ha}:MW c h (c',h',false):=fun e=>by cases e
theorem fM {c:Ch} {h:Ha} {c':Ch} {h':Ha} (a:c.words.length≤c'.words.length) (b:h'.pos<24):MW c h (done c' h'):=by
 unfold done;split
 ·exact fun _=>⟨a,fun k=>by have:24≤h'.pos:=k;omega⟩
 ·exact jo
theorem KV {c:Ch} {h:Ha} {c':Ch} {h':Ha} (a:c.words.length≤c'.words.length) (b:jR c h.mine=true) (e:h'.mine=h.mine):MW c h (done c' h'):=by
 unfold done;split
 ·exact fun _=>⟨a,fun _=>⟨b,e⟩⟩
 ·exact jo
theorem uD (h:Ha):(anew h).pos<24:=by
 show (if h.code == 2 then (9:Int) else 1)<24;split <;> omega
theorem qR (h:Ha):(bF h).pos<24:=by
 unfold bF;split
 ·show (0:Int)<24;omega
 ·split
  ·show (23:Int)<24;omega
  ·exact uD h
theorem GQ (c:Ch) (h:Ha) (G F el:Int) (h1:F<24) (h2:el<24):(fA c h G F el).2.pos<24:=by
 unfold fA;split
 ·show (0:Int)<24;omega
 ·split
  ·exact h1
  ·exact h2
theorem GU (c:Ch) (h:Ha) (F G el:Int):c.words.length≤(fA c h F G el).1.words.length:=by
 unfold fA;split
 ·exact Nat.le_refl _
 ·split
  ·show c.words.length≤(c.words ++ [0]).length
   rw [List.length_append];simp
  ·exact Nat.le_refl _
theorem xz (c:Ch) (w v:Int):c.words.length≤(cZ c w v).words.length:=by rw [oQ];exact Nat.le_refl _
theorem AQ (c:Ch) (h:Ha) (t v:Int) (y:Ha) (F:y.pos<24):MW c h (iF c h t v y):=by
 unfold iF;split
 ·exact fM (Nat.le_refl _) F
 ·exact fM (Nat.le_refl _) (by show (10:Int)<24;omega)
theorem GV (c:Ch) (h:Ha) (t v:Int) (y:Ha) (F:y.pos<24):MW c h (kF c h t v y):=by
 unfold kF;split
 ·exact fM (Nat.le_refl _) F
 ·exact fM (Nat.le_refl _) (by show (18:Int)<24;omega)
theorem SX (c:Ch) (h:Ha):MW c h (bE c h):=by
 unfold bE;split
 case isFalse=>exact jo
 split
 ·unfold vC
  split
  ·exact fM (Nat.le_refl _) zK
  ·exact fM (Nat.le_refl _) (by show (2:Int)<24;omega)
 split
 ·exact fM (Nat.le_refl _) (by show (3:Int)<24;omega)
 split
 ·unfold vD
  split
  ·refine fM (Nat.le_refl _) ?_
   rename_i p3 _;have p3:h.pos=3:=by simpa using p3
   unfold kZ;dsimp only
   repeat' split
   all_goals first|(show (4:Int)<24;omega)|(show (6:Int)<24;omega)|(show (7:Int)<24;omega)|exact uD _|(show h.pos<24;omega)
  ·exact jo
 split
 ·exact fM (Nat.le_refl _) (by show (5:Int)<24;omega)
 split
 ·exact fM (Nat.le_refl _) (by show (6:Int)<24;omega)
 split
 ·unfold jS
  split
  ·exact jo
  ·split
   ·exact fM (GU _ _ _ _ _) (GQ _ _ _ _ _ tO tO)
   ·split
    ·exact fM (Nat.le_refl _) zK
    ·exact fM (Nat.le_refl _) (by show (3:Int)<24;omega)
 split
 ·refine fM (xz _ _ _) ?_
  unfold nZ;cases eG c h.wait 1 with
  | true=>show (8:Int)<24;omega
  | false=>exact uD _
 ·exact fM (Nat.le_refl _) zK
theorem SY (c:Ch) (h:Ha):MW c h (aO c h):=by
 unfold aO;split
 case isFalse=>exact jo
 split
 ·unfold sN
  split
  ·exact fM (Nat.le_refl _) zK
  ·exact fM (Nat.le_refl _) (by show (10:Int)<24;omega)
 split
 ·unfold sP
  split
  ·exact Ed
  ·split
   ·refine fM (Nat.le_refl _) ?_
    rename_i p3 _ _;have p3:h.pos=10:=by simpa using p3
    unfold iV;dsimp only
    repeat' split
    all_goals first|(show (11:Int)<24;omega)|(show (12:Int)<24;omega)|exact uD _|(show h.pos<24;omega)
   ·exact jo
 split
 ·exact fM (Nat.le_refl _) (by show (12:Int)<24;omega)
 split
 ·unfold fZ
  split
  ·exact AQ _ _ _ _ _ (by show (16:Int)<24;omega)
  split
  ·exact AQ _ _ _ _ _ (by show (13:Int)<24;omega)
  split
  ·exact jo
  split
  ·exact AQ _ _ _ _ _ (by show (16:Int)<24;omega)
  ·refine fM (GU _ _ _ _ _) ?_
   have:=GQ c h 4 16 10 tO tO;unfold oH;split <;> exact this
 split
 ·refine fM (xz _ _ _) ?_
  cases eG c h.wait 1 with
  | true=>show (14:Int)<24;omega
  | false=>show (15:Int)<24;omega
 split
 ·exact fM (Nat.le_refl _) (by show (16:Int)<24;omega)
 ·exact fM (Nat.le_refl _) (uD _)
theorem Ta (c:Ch) (h:Ha):MW c h (aW c h):=by
 unfold aW;split
 case isFalse=>exact jo
 split
 ·unfold ib
  split
  ·exact fM (Nat.le_refl _) (qR _)
  ·exact fM (Nat.le_refl _) (by show (17:Int)<24;omega)
 split
 ·split
  ·exact fM (Nat.le_refl _) (qR _)
  ·exact fM (Nat.le_refl _) (by show (18:Int)<24;omega)
 split
 ·unfold ko
  split
  ·exact Ed
  ·refine fM (Nat.le_refl _) ?_
   unfold lZ;dsimp only
   repeat' split
   all_goals first|(show (19:Int)<24;omega)|(show (16:Int)<24;omega)|exact qR _
 split
 ·unfold iw
  split
  ·exact GV _ _ _ _ _ (by show (20:Int)<24;omega)
  split
  ·exact GV _ _ _ _ _ (qR _)
  ·exact jo
 split
 ·refine fM (xz _ _ _) ?_
  cases eG c h.wait 1 with
  | true=>show (21:Int)<24;omega
  | false=>show (22:Int)<24;omega
 split
 ·exact fM (Nat.le_refl _) (qR _)
 ·exact fM (Nat.le_refl _) (by show (16:Int)<24;omega)
theorem Tc (c:Ch) (h:Ha):MW c h (bJ c h):=by
 unfold bJ;split
 case isFalse=>exact jo
 rename_i e;simp only [Bool.and_eq_true] at e;have m:=e.2.1;split
 ·unfold j5
  split
  ·exact Ed
  split
  ·exact KV (Nat.le_refl _) m rfl
  split
  ·exact fM (Nat.le_refl _) zK
  ·exact KV (Nat.le_refl _) m rfl
 split
 ·exact fM (Nat.le_refl _) zK
 ·exact fM (Nat.le_refl _) zK
theorem Td (c:Ch) (h:Ha):MW c h (fu c h):=by
 unfold fu;split
 ·exact SX c h
 split
 ·exact SY c h
 split
 ·exact Ta c h
 ·exact Tc c h
theorem zA {c c':Ch} {w:Int} (h:jR c w=true) (l:c.words.length≤c'.words.length):jR c' w=true:=by
 unfold jR at h ⊢;rw [dK] at h ⊢;omega
theorem Mine.step {c c':Ch} {hs:List Ha} {i:Nat} {h':Ha} (m:Mine c hs) (H:i<hs.length) (e:fu c (aD hs i)=(c',h',true)):Mine c' (hs.set i h'):=by
 have M:=Td c (aD hs i);rw [e] at M;obtain ⟨l,k⟩:=M rfl;intro j F p;rw [List.length_set] at F;rw [dI h' H] at p ⊢;by_cases G:i=j
 ·rw [if_pos G] at p ⊢
  obtain ⟨a,b⟩:=k p;have b:h'.mine=(aD hs i).mine:=b;rw [b];exact zA a l
 ·rw [if_neg G] at p ⊢
  exact zA (m j F p) l
theorem Mine.set {c c':Ch} {hs:List Ha} {i:Nat} {h':Ha} (m:Mine c hs) (H:i<hs.length) (p:h'.pos<24) (l:c.words.length≤c'.words.length):Mine c' (hs.set i h'):=by
 intro j F q;rw [List.length_set] at F;rw [dI h' H] at q ⊢;by_cases G:i=j
 ·rw [if_pos G] at q
  omega
 ·rw [if_neg G] at q ⊢
  exact zA (m j F q) l
theorem Mine.tell {c:Ch} {hs:List Ha} (m:Mine c hs) (w v:Int):Mine (cZ c w v) hs:=fun j F p=>zA (m j F p) (xz _ _ _)
theorem Mine.new (c:Ch) (n:Nat):Mine c (List.replicate n (aM 0 0)):=fun j _ p=>by rw [nM] at p;omega
end
section
def NR (s:St):Prop:=s.2.2=true→s.2.1.pos≠0∨s.2.1.reply≠0
theorem jP:NR nothing:=fun e=>by cases e
theorem Ee {c':Ch} {h':Ha}:NR (c',h',false):=fun e=>by cases e
theorem fF {c':Ch} {h':Ha} (b:h'.pos≠0∨h'.reply≠0):NR (done c' h'):=by
 unfold done;split
 ·exact fun _=>b
 ·exact jP
theorem x9 (h:Ha):(anew h).pos≠0∨(anew h).reply≠0:=by
 refine .inl ?_;show (if h.code == 2 then (9:Int) else 1)≠0;split <;> omega
theorem uF (h:Ha):(bF h).pos≠0∨(bF h).reply≠0:=by
 unfold bF;split
 ·exact .inr (by show (2:Int)≠0;omega)
 ·split
  ·exact .inl (by show (23:Int)≠0;omega)
  ·exact x9 h
theorem KW (c:Ch) (h:Ha) (G F el:Int) (h1:F≠0) (h2:el≠0):(fA c h G F el).2.pos≠0∨(fA c h G F el).2.reply≠0:=by
 unfold fA;split
 ·exact .inr (by show (4:Int)≠0;omega)
 ·split
  ·exact .inl h1
  ·exact .inl h2
theorem AR (c:Ch) (h:Ha) (t v:Int) (y:Ha) (F:y.pos≠0∨y.reply≠0):NR (iF c h t v y):=by
 unfold iF;split
 ·exact fF F
 ·exact fF (.inl (by show (10:Int)≠0;omega))
theorem GX (c:Ch) (h:Ha) (t v:Int) (y:Ha) (F:y.pos≠0∨y.reply≠0):NR (kF c h t v y):=by
 unfold kF;split
 ·exact fF F
 ·exact fF (.inl (by show (18:Int)≠0;omega))
theorem Te (c:Ch) (h:Ha):NR (bE c h):=by
 unfold bE;split
 case isFalse=>exact jP
 split
 ·unfold vC
  split
  ·exact fF mq
  ·exact fF (.inl (by show (2:Int)≠0;omega))
 split
 ·exact fF (.inl (by show (3:Int)≠0;omega))
 split
 ·unfold vD
  split
  ·refine fF ?_
   rename_i p3 _;have p3:h.pos=3:=by simpa using p3
   unfold kZ;dsimp only
   repeat' split
   all_goals first|exact (.inl (by show (4:Int)≠0;omega))|exact (.inl (by show (6:Int)≠0;omega))|exact (.inl (by show (7:Int)≠0;omega))|exact x9 _|exact (.inl (by show h.pos≠0;omega))
  ·exact jP
 split
 ·exact fF (.inl (by show (5:Int)≠0;omega))
 split
 ·exact fF (.inl (by show (6:Int)≠0;omega))
 split
 ·unfold jS
  split
  ·exact jP
  ·split
   ·exact fF (KW _ _ _ _ _ tO tO)
   ·split
    ·exact fF mq
    ·exact fF (.inl (by show (3:Int)≠0;omega))
 split
 ·refine fF ?_
  unfold nZ;cases eG c h.wait 1 with
  | true=>exact (.inl (by show (8:Int)≠0;omega))
  | false=>exact x9 _
 ·exact fF mq
theorem Tf (c:Ch) (h:Ha):NR (aO c h):=by
 unfold aO;split
 case isFalse=>exact jP
 split
 ·unfold sN
  split
  ·exact fF mq
  ·exact fF (.inl (by show (10:Int)≠0;omega))
 split
 ·unfold sP
  split
  ·exact Ee
  ·split
   ·refine fF ?_
    rename_i p3 _ _;have p3:h.pos=10:=by simpa using p3
    unfold iV;dsimp only
    repeat' split
    all_goals first|exact (.inl (by show (11:Int)≠0;omega))|exact (.inl (by show (12:Int)≠0;omega))|exact x9 _|exact (.inl (by show h.pos≠0;omega))
   ·exact jP
 split
 ·exact fF (.inl (by show (12:Int)≠0;omega))
 split
 ·unfold fZ
  split
  ·exact AR _ _ _ _ _ (.inl Fq)
  split
  ·exact AR _ _ _ _ _ (.inl (by show (13:Int)≠0;omega))
  split
  ·exact jP
  split
  ·exact AR _ _ _ _ _ (.inl Fq)
  ·refine fF ?_
   have:=KW c h 4 16 10 tO tO;unfold oH;split <;> exact this
 split
 ·refine fF ?_
  cases eG c h.wait 1 with
  | true=>exact (.inl (by show (14:Int)≠0;omega))
  | false=>exact (.inl (by show (15:Int)≠0;omega))
 split
 ·exact fF (.inl Fq)
 ·exact fF (x9 _)
theorem Tg (c:Ch) (h:Ha):NR (aW c h):=by
 unfold aW;split
 case isFalse=>exact jP
 split
 ·unfold ib
  split
  ·exact fF (uF _)
  ·exact fF (.inl (by show (17:Int)≠0;omega))
 split
 ·split
  ·exact fF (uF _)
  ·exact fF (.inl (by show (18:Int)≠0;omega))
 split
 ·unfold ko
  split
  ·exact Ee
  ·refine fF ?_
   unfold lZ;dsimp only
   repeat' split
   all_goals first|exact (.inl (by show (19:Int)≠0;omega))|exact (.inl Fq)|exact uF _
 split
 ·unfold iw
  split
  ·exact GX _ _ _ _ _ (.inl (by show (20:Int)≠0;omega))
  split
  ·exact GX _ _ _ _ _ (uF _)
  ·exact jP
 split
 ·refine fF ?_
  cases eG c h.wait 1 with
  | true=>exact (.inl (by show (21:Int)≠0;omega))
  | false=>exact (.inl (by show (22:Int)≠0;omega))
 split
 ·exact fF (uF _)
 ·exact fF (.inl Fq)
theorem Ti (c:Ch) (h:Ha):NR (bJ c h):=by
 unfold bJ;split
 case isFalse=>exact jP
 rename_i e;simp only [Bool.and_eq_true] at e;have m:=e.2.1;split
 ·unfold j5
  split
  ·exact Ee
  split
  ·exact fF (.inl cK)
  split
  ·exact fF mq
  ·exact fF (.inl cK)
 split
 ·exact fF mq
 ·exact fF mq
theorem Tj (c:Ch) (h:Ha):NR (fu c h):=by
 unfold fu;split
 ·exact Te c h
 split
 ·exact Tf c h
 split
 ·exact Tg c h
 ·exact Ti c h
end
end Go.Proofs.YtffhjmepfojhnaaGreat
