/-
  Turning a cell in chapter 7 of the reference model, on hands and channels that are kept whole; lists lie in memory and hold at most 2 ^ 40 elements.
-/
import Derived.Test.YtffhjmepfojhnaaGreatS01
import Derived.Test.YtffhjmepfojhnaaGreatS18
import Derived.Test.YtffhjmepfojhnaaGreatS15
import Derived.Test.YtffhjmepfojhnaaGreatS21
import Derived.Test.YtffhjmepfojhnaaGreatS19
import Derived.Test.YtffhjmepfojhnaaGreatS06
import Derived.Test.YtffhjmepfojhnaaGreatS12
set_option maxRecDepth 100000
set_option maxHeartbeats 4000000
set_option linter.unusedSimpArgs false
set_option linter.unusedVariables false
namespace Go.Proofs.YtffhjmepfojhnaaGreat
open _root_.Go.Proofs.Tryz
section
open Go.RowKit
attribute [local simp] aP
attribute [local go_sem ↓] aQ bF aY bY aZ bZ aX bB aN aU
theorem zy (c:Ch) (h:Ha) (q u:Int) (m:Ha) (E F:Value) (lo:Nat) (w:World) (h1:aD w lo E c.cells) (Y:aG w lo F c.words) (a8:0≤h.cell) (a9:h.cell<c.cells.length) :
    (∀ (L:bQ c h.cell h.seen q u=true),Calls prog 215 #[.agg (aF c E F),.agg (aB h),.int .i64 q,.int .i64 u,.agg (aB m)] w fun r w'=>dJ w w' lo E F (j6 c h q u m) r) ∧
    (∀ (L:bQ c h.cell h.seen q u=false),Calls prog 215 #[.agg (aF c E F),.agg (aB h),.int .i64 q,.int .i64 u,.agg (aB m)] w fun r w'=>dJ w w' lo E F (j6 c h q u m) r):=by
  constructor
  case' left =>
    intro L
    have Z:Hid (0=0):=rfl
  case' right =>
    intro L
    have mB:Hid (0=0):=rfl
  all_goals
    obtain ⟨i,N⟩:∃ i:Nat,h.cell=(i:Int):=⟨h.cell.toNat,by omega⟩
    have hi:i<c.cells.length:=by omega
    first
    | (replace Z:=Z
       have A:bQ c i h.seen q u=true:=by rw [← L];simp [*]
       have e:j6 c h q u m=done (bK c i h.seen q u) (m):=by simp [j6,N,A])
    | (replace mB:=mB
       have A:bQ c i h.seen q u=false:=by rw [← L];simp [*]
       have e:j6 c h q u m=done (bK c i h.seen q u) ({ h with pos:=10,cell:=(i:Int) }):=by simp [j6,N,A])
    rw [e]
    have T:=aA fun W a b=>ko c i h.seen q u E F lo W a b hi
    first
    | (replace Z:=Z
       have D:=aA fun W=>bU (bK c i h.seen q u) (m) E F lo W
       generalize done (bK c i h.seen q u) (m)=x at *)
    | (replace mB:=mB
       have D:=aA fun W=>bU (bK c i h.seen q u) ({ h with pos:=10,cell:=(i:Int) }) E F lo W
       generalize done (bK c i h.seen q u) ({ h with pos:=10,cell:=(i:Int) })=x at *)
    rw [A] at T
    have b1:=kY h1
    have b2:=kY Y
    have U:=nO b1
    have V:=nO b2
    have aa:=U (w.heap.size) tO
    have af:=V (w.heap.size) tO
    have ab:=U (w+1) tO
    have ag:=V (w+1) tO
    have ac:=U (w+1+1) tO
    have ah:=V (w+1+1) tO
    have ad:=U (w+1+1+1) tO
    have ai:=V (w+1+1+1) tO
    have ae:=U (w+1+1+1+1) tO
    have aj:=V (w+1+1+1+1) tO
    have o1:=h1
    have o2:=Y
    obtain ⟨a1,q1,e1,_⟩:=h1.seg
    obtain ⟨a2,q2,e2,_⟩:=Y.seg
    subst e1 e2
    clear h1 Y e L
    go_enter func215,ntmps215
    go_wp2_with fail;refine (T.out _ (zO o1 o1) (zO o2 o2)).mono ?_;rintro _ X ⟨rfl,p1,p2,z⟩;have O:=z.size;(try (simp at O));have G:=Rk z (b:=w);(try simp [go_sem] at G);replace bX:=ll G;clear G;have M:=I6 (w:=w) zB z;clear z
    have a6:jI (Value.slice a1 c.cells q1).ownBlock (Value.slice a2 c.words q2).ownBlock w X:=mY M
    obtain ⟨k0,k1,k2,k3⟩:=mF (a:=w) (b:=X)
    have k4:w+1+1+1+1<X.heap.size:=by omega
    have r1:aD X lo (.slice a1 c.cells q1) (bK c i h.seen q u).cells:=p1
    have r2:aG X lo (.slice a2 c.words q2) (bK c i h.seen q u).words:=p2
    go_wp2_with fail
    refine (D.out _ (zO r1 o1) (zO r2 o2)).mono ?_
    rintro _ w3 ⟨⟨y1,y2,rfl,J,K,a0,a3⟩,y⟩
    have a7:jI (Value.slice a1 c.cells q1).ownBlock (Value.slice a2 c.words q2).ownBlock w w3:=gU zN (dR y)
    have R:=y.size;(try simp at R);have G:=Rj y (b:=w);(first|simp [go_sem,bX,k0,k1,k2,k3,k4] at G|simp [go_sem] at G|skip);replace bX:=ll G;clear G y
    obtain ⟨⟨H,I⟩,a4,a5⟩:=sO (w:=w) (w+1+1+1+1+1) a0 a3 b1 b2;obtain ⟨ya,yp,rfl,_⟩:=J.seg;obtain ⟨yb,yq,rfl,_⟩:=K.seg
    go_wp2
    refine rE results215 rfl (aO x.1 (.slice ya x.1.cells yp) (.slice yb x.1.words yq) tY) rfl (aJ x.2.1 tY) ⟨⟨_,_,rfl,?_,?_,a4,a5⟩,by exact zN⟩
    · exact zP J J H
    · exact zP K K I
theorem Md (c:Ch) (h:Ha) (q z:Int) (m:Ha) (u y:Value) (lo:Nat) (w:World) (h1:aD w lo u c.cells) (E:aG w lo y c.words) (A:0≤h.cell) (D:h.cell<c.cells.length) (F:bQ c h.cell h.seen q z=true) :
    Calls prog 215 #[.agg (aF c u y),.agg (aB h),.int .i64 q,.int .i64 z,.agg (aB m)] w fun r w'=>dJ w w' lo u y (j6 c h q z m) r:=(zy c h q z m u y lo w h1 E A D).1 F
theorem Me (c:Ch) (h:Ha) (q z:Int) (m:Ha) (u y:Value) (lo:Nat) (w:World) (h1:aD w lo u c.cells) (E:aG w lo y c.words) (A:0≤h.cell) (D:h.cell<c.cells.length) (F:bQ c h.cell h.seen q z=false) :
    Calls prog 215 #[.agg (aF c u y),.agg (aB h),.int .i64 q,.int .i64 z,.agg (aB m)] w fun r w'=>dJ w w' lo u y (j6 c h q z m) r:=(zy c h q z m u y lo w h1 E A D).2 F
theorem rJ (c:Ch) (h:Ha) (y D:Int) (m:Ha) (z A:Value) (lo:Nat) (w:World) (h1:aD w lo z c.cells) (E:aG w lo A c.words) (q:0≤h.cell) (u:h.cell<c.cells.length) :
    Calls prog 215 #[.agg (aF c z A),.agg (aB h),.int .i64 y,.int .i64 D,.agg (aB m)] w fun r w'=>dJ w w' lo z A (j6 c h y D m) r:=by
  cases F:bQ c h.cell h.seen y D with
  | true=>exact Md c h y D m z A lo w h1 E q u F
  | false=>exact Me c h y D m z A lo w h1 E q u F
end
section
open Go.RowKit
attribute [local simp] aP
attribute [local go_sem ↓] aQ bF aY bY aZ bZ aX bB aN aU
theorem Mf (c:Ch) (h:Ha) (Y Z:Value) (lo:Nat) (w:World) (h1:aD w lo Y c.cells) (F:aG w lo Z c.words) (T:0≤h.cell) (U:h.cell<c.cells.length) (hs:h.seen=2) :
  dG 205 c h Y Z lo w (gX c h):=by
 have e:gX c h=j6 c h 7 0 (eQ h 0):=by simp [gX,hs]
 rw [e]
 have K:=aA fun W a b=>rJ c h 7 0 (eQ h 0) Y Z lo W a b T U
 generalize j6 c h 7 0 (eQ h 0)=x at *
 have b1:=kY h1
 have b2:=kY F
 have H:=nO b1
 have I:=nO b2
 have a5:=H (w.heap.size) tO
 have a9:=I (w.heap.size) tO
 have a6:=H (w+1) tO
 have aa:=I (w+1) tO
 have a7:=H (w+1+1) tO
 have ab:=I (w+1+1) tO
 have a8:=H (w+1+1+1) tO
 have ac:=I (w+1+1+1) tO
 have o1:=h1
 have o2:=F
 obtain ⟨J,V,e1,_⟩:=h1.seg
 obtain ⟨L,X,e2,_⟩:=F.seg
 subst e1 e2
 clear h1 F e
 go_enter func205,ntmps205
 go_wp2_with fail
 go_region_held3 (fun w'=>hp w' w=some (.cells (aF c (.slice J c.cells V) (.slice L c.words X)) 31)∧hp w' (w+1)=some (.cells (aB h) 49))
  (first|(simp [*,go_sem]))
  (first|((go_at_call 206;refine aK w zB fun bb=>?_;refine (rG _ _ _).mono ?_;rintro _ w1 ⟨rfl,q⟩;obtain ⟨m,D,r⟩:=fH bb q (b:=w);(try simp at D);(try simp [go_sem] at r);replace bX:=dW r;clear r;have a0:=m;clear q bb);have p1:=own_below o1 m;have p2:=own_below o2 m;have a3:jI (Value.slice J c.cells V).ownBlock (Value.slice L c.words X).ownBlock w w1:=dR m)|(go_at_call 215;refine (K.out _ (zO p1 p1) (zO p2 p2)).mono ?_;rintro _ w3 ⟨⟨y1,y2,rfl,z,A,M,N⟩,G⟩;have E:=G.2.2.2.1;(try (simp at E));have r:=xD G (b:=w);(first|simp [go_sem,bX] at r|simp [go_sem] at r|skip);replace bX:=dW r;clear r;have a4:jI (Value.slice J c.cells V).ownBlock (Value.slice L c.words X).ownBlock w w3:=gU zN G;clear G;obtain ⟨⟨u,y⟩,O,R⟩:=sO (w:=w) (w+1+1+1+1) M N b1 b2;obtain ⟨ya,yp,rfl,_⟩:=z.seg;obtain ⟨yb,yq,rfl,_⟩:=A.seg))
 all_goals go_wp2
 all_goals (refine rE results205 rfl (aO x.1 (.slice ya x.1.cells yp) (.slice yb x.1.words yq) tY) rfl (aJ x.2.1 tY) ⟨⟨_,_,rfl,?_,?_,O,R⟩,by exact zN⟩)
 all_goals (first|exact zP z z u|skip)
 all_goals (first|exact zP A A y|skip)
theorem wE (c:Ch) (h:Ha) (Z v2:Value) (lo:Nat) (w:World) (h1:aD w lo Z c.cells) (F:aG w lo v2 c.words) (U:0≤h.cell) (V:h.cell<c.cells.length) (hx:h.cell<h.come) (T:h.seen=0∨h.seen=1) :
  dG 205 c h Z v2 lo w (gX c h):=by
 rcases T with hs|hs
 all_goals
  have e:gX c h=j6 c h 8 0 (eQ h 2):=by simp [gX,hs,hx]
  rw [e]
  have K:=aA fun W a b=>rJ c h 8 0 (eQ h 2) Z v2 lo W a b U V
  generalize j6 c h 8 0 (eQ h 2)=x at *
  have b1:=kY h1
  have b2:=kY F
  have H:=nO b1
  have I:=nO b2
  have a5:=H (w.heap.size) tO
  have a9:=I (w.heap.size) tO
  have a6:=H (w+1) tO
  have aa:=I (w+1) tO
  have a7:=H (w+1+1) tO
  have ab:=I (w+1+1) tO
  have a8:=H (w+1+1+1) tO
  have ac:=I (w+1+1+1) tO
  have o1:=h1
  have o2:=F
  obtain ⟨J,X,e1,_⟩:=h1.seg
  obtain ⟨L,Y,e2,_⟩:=F.seg
  subst e1 e2
  clear h1 F e
  go_enter func205,ntmps205
  go_wp2_with fail
  go_region_held3 (fun w'=>hp w' w=some (.cells (aF c (.slice J c.cells X) (.slice L c.words Y)) 31)∧hp w' (w+1)=some (.cells (aB h) 49))
   (first|(simp [*,go_sem]))
   (first|((go_at_call 206;refine aK w zB fun bb=>?_;refine (rG _ _ _).mono ?_;rintro _ w1 ⟨rfl,q⟩;obtain ⟨m,D,r⟩:=fH bb q (b:=w);(try simp at D);(try simp [go_sem] at r);replace bX:=dW r;clear r;have a0:=m;clear q bb);have p1:=own_below o1 m;have p2:=own_below o2 m;have a3:jI (Value.slice J c.cells X).ownBlock (Value.slice L c.words Y).ownBlock w w1:=dR m)|(go_at_call 215;refine (K.out _ (zO p1 p1) (zO p2 p2)).mono ?_;rintro _ w3 ⟨⟨y1,y2,rfl,z,A,M,N⟩,G⟩;have E:=G.2.2.2.1;(try (simp at E));have r:=xD G (b:=w);(first|simp [go_sem,bX] at r|simp [go_sem] at r|skip);replace bX:=dW r;clear r;have a4:jI (Value.slice J c.cells X).ownBlock (Value.slice L c.words Y).ownBlock w w3:=gU zN G;clear G;obtain ⟨⟨u,y⟩,O,R⟩:=sO (w:=w) (w+1+1+1+1) M N b1 b2;obtain ⟨ya,yp,rfl,_⟩:=z.seg;obtain ⟨yb,yq,rfl,_⟩:=A.seg))
  all_goals go_wp2
  all_goals (refine rE results205 rfl (aO x.1 (.slice ya x.1.cells yp) (.slice yb x.1.words yq) tY) rfl (aJ x.2.1 tY) ⟨⟨_,_,rfl,?_,?_,O,R⟩,by exact zN⟩)
  all_goals (first|exact zP z z u|skip)
  all_goals (first|exact zP A A y|skip)
theorem Ju (c:Ch) (h:Ha) (m q:Value) (lo:Nat) (w:World) (h1:aD w lo m c.cells) (z:aG w lo q c.words) (u:0≤h.cell) (y:h.cell<c.cells.length) (hs:h.seen=0) (A:h.cell<h.come) :
  Calls prog 205 #[.agg (aF c m q),.agg (aB h)] w fun r w'=>dJ w w' lo m q (gX c h) r:=wE c h m q lo w h1 z u y A (.inl hs)
theorem Jv (c:Ch) (h:Ha) (m q:Value) (lo:Nat) (w:World) (h1:aD w lo m c.cells) (z:aG w lo q c.words) (u:0≤h.cell) (y:h.cell<c.cells.length) (hs:h.seen=1) (A:h.cell<h.come) :
  Calls prog 205 #[.agg (aF c m q),.agg (aB h)] w fun r w'=>dJ w w' lo m q (gX c h) r:=wE c h m q lo w h1 z u y A (.inr hs)
theorem Mg (c:Ch) (h:Ha) (N O:Value) (lo:Nat) (w:World) (h1:aD w lo N c.cells) (z:aG w lo O c.words) (J:0≤h.cell) (L:h.cell<c.cells.length) (hs:(h.seen == 3)=true) (M:(h.seen == 2)=false) :
  dG 205 c h N O lo w (gX c h):=by
 have e:gX c h=j6 c h 5 h.wait ({ h with pos:=13 }):=by simp at hs M;simp [gX,hs]
 rw [e]
 have K:=aA fun W a b=>rJ c h 5 h.wait ({ h with pos:=13 }) N O lo W a b J L
 generalize j6 c h 5 h.wait ({ h with pos:=13 })=x at *
 have T:=kY h1
 have U:=kY z
 have D:=nO T
 have E:=nO U
 have a3:=D (w.heap.size) tO
 have a7:=E (w.heap.size) tO
 have a4:=D (w+1) tO
 have a8:=E (w+1) tO
 have a5:=D (w+1+1) tO
 have a9:=E (w+1+1) tO
 have a6:=D (w+1+1+1) tO
 have aa:=E (w+1+1+1) tO
 have V:=h1
 have X:=z
 obtain ⟨Y,q1,e1,_⟩:=h1.seg
 obtain ⟨Z,q2,e2,_⟩:=z.seg
 subst e1 e2
 clear h1 z e
 go_enter func205,ntmps205
 go_wp2_with fail
 refine (K.out _ (zO V V) (zO X X)).mono ?_
 rintro _ w3 ⟨⟨y1,y2,rfl,r,u,F,G⟩,A⟩
 have y:=A.2.2.2.1;(try (simp at y));have R:=xD A (b:=w);(try simp [go_sem] at R);replace bX:=dW R;clear R
 have a0:jI (Value.slice Y c.cells q1).ownBlock (Value.slice Z c.words q2).ownBlock w w3:=gU (dR zB) A
 clear A
 obtain ⟨⟨m,q⟩,H,I⟩:=sO (w:=w) (w+1+1+1+1) F G T U;obtain ⟨ya,yp,rfl,_⟩:=r.seg;obtain ⟨yb,yq,rfl,_⟩:=u.seg
 go_wp2
 refine rE results205 rfl (aO x.1 (.slice ya x.1.cells yp) (.slice yb x.1.words yq) tY) rfl (aJ x.2.1 tY) ⟨⟨_,_,rfl,?_,?_,H,I⟩,by exact zN⟩
 ·exact zP r r m
 ·exact zP u u q
theorem Jw (c:Ch) (h:Ha) (M N:Value) (lo:Nat) (w:World) (h1:aD w lo M c.cells) (F:aG w lo N c.words) (hs:(h.seen == 2)=false) (z:(h.seen == 3)=false) (A:(h.seen != 0)=true) (D:(h.seen != 1)=true) :
  dG 205 c h M N lo w (gX c h):=by
 have e:gX c h=nothing:=by simp at hs z A D;simp [gX,hs,z,A,D]
 rw [e]
 have T:=aA (iX · lo M N)
 generalize nothing=x at *
 have R:=kY h1
 have U:=kY F
 have G:=nO R
 have H:=nO U
 have a0:=G (w.heap.size) tO
 have a6:=H (w.heap.size) tO
 have a3:=G (w+1) tO
 have a7:=H (w+1) tO
 have a4:=G (w+1+1) tO
 have a8:=H (w+1+1) tO
 have a5:=G (w+1+1+1) tO
 have a9:=H (w+1+1+1) tO
 have o1:=h1
 have o2:=F
 obtain ⟨a1,q1,Y,_⟩:=h1.seg
 obtain ⟨a2,q2,Z,_⟩:=F.seg
 subst Y Z
 clear h1 F e
 go_enter func205,ntmps205
 go_wp2_with fail;refine aK w zB fun V=>?_;refine (T.out _).mono ?_;rintro _ w1 ⟨⟨y1,y2,rfl,u,y,I,J⟩,m⟩;obtain ⟨X,E,O⟩:=fH V m (b:=w);(try simp at E);(try simp [go_sem] at O);replace bX:=dW O;clear O m V
 obtain ⟨⟨q,r⟩,K,L⟩:=sO (w:=w) (w+1+1+1+1) I J R U;obtain ⟨ya,yp,rfl,_⟩:=u.seg;obtain ⟨yb,yq,rfl,_⟩:=y.seg
 go_wp2
 refine rE results205 rfl (aO x.1 (.slice ya x.1.cells yp) (.slice yb x.1.words yq) tY) rfl (aJ x.2.1 tY) ⟨⟨_,_,rfl,?_,?_,K,L⟩,dR zB⟩
 ·exact zP u u q
 ·exact zP y y r
end
section
open Go.RowKit
attribute [local simp] aP
attribute [local go_sem ↓] aQ bF aY bY aZ bZ aX bB aN aU
theorem uE (c:Ch) (h:Ha) (G H:Value) (lo:Nat) (w:World) (h1:aD w lo G c.cells) (R:aG w lo H c.words) (a8:lo≤w.heap.size) (a5:0≤h.cell) (a6:h.cell<c.cells.length) :
  (∀ (hs:h.seen=0) (V:h.come≤h.cell) (N:((fP c h 4 16 10).2.pos == 16)=true),Calls prog 205 #[.agg (aF c G H),.agg (aB h)] w fun r w'=>dJ w w' lo G H (gX c h) r) ∧
  (∀ (hs:h.seen=1) (V:h.come≤h.cell) (N:((fP c h 4 16 10).2.pos == 16)=true),Calls prog 205 #[.agg (aF c G H),.agg (aB h)] w fun r w'=>dJ w w' lo G H (gX c h) r):=by
 constructor
 case' left =>
  intro hs V N
  have mA:Hid (0=0):=rfl
 case' right =>
  intro hs V N
  have mB:Hid (0=0):=rfl
 all_goals
  have e:gX c h=done (fP c h 4 16 10).1 (rV (fP c h 4 16 10).2):=by simp [gX,hs,show ¬ h.cell<h.come by omega]
  rw [e]
  have T:=aA fun W a b=>rC c h 4 16 10 G H lo W a b a5 a6
  have I:=aA (rD c h 4 16 10)
  generalize fP c h 4 16 10=y at *
  have O:rV y.2={ y.2 with nxt:=1 }:=by simp at N;simp [rV,N]
  rw [O]
  clear O
  have D:=aA fun v3 W=>bU y.1 ({ y.2 with nxt:=1 }) G v3 lo W
  generalize done y.1 ({ y.2 with nxt:=1 })=x at *
  have b1:=kY h1
  have b2:=kY R
  have X:=nO b1
  have Y:=nO b2
  have aa:=X (w.heap.size) tO
  have ae:=Y (w.heap.size) tO
  have ab:=X (w+1) tO
  have af:=Y (w+1) tO
  have ac:=X (w+1+1) tO
  have ag:=Y (w+1+1) tO
  have ad:=X (w+1+1+1) tO
  have ah:=Y (w+1+1+1) tO
  have o1:=h1
  have o2:=R
  obtain ⟨a1,q1,e1,_⟩:=h1.seg
  obtain ⟨a2,q2,e2,_⟩:=R.seg
  subst e1 e2
  have a9:¬ h.cell<h.come:=by omega
  clear h1 R e V
  go_enter func205,ntmps205
  go_wp2_with fail
  refine (T.out _ (zO o1 o1) (zO o2 o2) (by simp;omega)).mono ?_
  rintro _ w1 ⟨v3,rfl,p1,p2,f3,U⟩
  have L:=U.2.2.2.1;(try (simp at L));have q:=xD U (b:=w);(try simp [go_sem] at q);replace bX:=dW q;clear q
  rw [← I.out]
  obtain ⟨a3,q3,rfl,_⟩:=p2.seg
  have K:jI (Value.slice a1 c.cells q1).ownBlock (Value.slice a2 c.words q2).ownBlock w w1:=gU (dR zB) U
  clear U
  obtain ⟨k0,k1,k2,k3⟩:=mF (a:=w) (b:=w1)
  go_wp2_with fail;refine aK w1 zB fun bk=>?_;refine (D.out _ _ (zO p1 p1) (zO p2 p2)).mono ?_;rintro _ w2 ⟨⟨y1,y2,rfl,E,F,Z,u⟩,m⟩;have M:=m.size;(try simp at M);have q:=BL m (b:=w);(first|simp [go_sem,bX,k0,k1,k2,k3] at q|simp [go_sem] at q|skip);replace bX:=dW q;clear q;have J:=bT bk m;clear m bk
  have a7:=gU K (dR J)
  replace u:=f3.trans u tS
  clear K f3
  obtain ⟨⟨z,A⟩,a0,a4⟩:=sO (w:=w) (w+1+1+1+1) Z u b1 b2;obtain ⟨ya,yp,rfl,_⟩:=E.seg;obtain ⟨yb,yq,rfl,_⟩:=F.seg
  go_wp2
  refine rE results205 rfl (aO x.1 (.slice ya x.1.cells yp) (.slice yb x.1.words yq) tY) rfl (aJ x.2.1 tY) ⟨⟨_,_,rfl,?_,?_,a0,a4⟩,by exact zN⟩
  ·exact zP E E z
  ·exact zP F F A
theorem FB (c:Ch) (h:Ha) (m q:Value) (lo:Nat) (w:World) (h1:aD w lo m c.cells) (A:aG w lo q c.words) (z:lo≤w.heap.size) (u:0≤h.cell) (y:h.cell<c.cells.length) (hs:h.seen=0) (D:h.come≤h.cell) (E:((fP c h 4 16 10).2.pos == 16)=true) :
  Calls prog 205 #[.agg (aF c m q),.agg (aB h)] w fun r w'=>dJ w w' lo m q (gX c h) r:=(uE c h m q lo w h1 A z u y).1 hs D E
theorem FC (c:Ch) (h:Ha) (m q:Value) (lo:Nat) (w:World) (h1:aD w lo m c.cells) (A:aG w lo q c.words) (z:lo≤w.heap.size) (u:0≤h.cell) (y:h.cell<c.cells.length) (hs:h.seen=1) (D:h.come≤h.cell) (E:((fP c h 4 16 10).2.pos == 16)=true) :
  Calls prog 205 #[.agg (aF c m q),.agg (aB h)] w fun r w'=>dJ w w' lo m q (gX c h) r:=(uE c h m q lo w h1 A z u y).2 hs D E
theorem uF (c:Ch) (h:Ha) (G H:Value) (lo:Nat) (w:World) (h1:aD w lo G c.cells) (R:aG w lo H c.words) (a8:lo≤w.heap.size) (a5:0≤h.cell) (a6:h.cell<c.cells.length) :
  (∀ (hs:h.seen=0) (V:h.come≤h.cell) (N:((fP c h 4 16 10).2.pos == 16)=false),Calls prog 205 #[.agg (aF c G H),.agg (aB h)] w fun r w'=>dJ w w' lo G H (gX c h) r) ∧
  (∀ (hs:h.seen=1) (V:h.come≤h.cell) (N:((fP c h 4 16 10).2.pos == 16)=false),Calls prog 205 #[.agg (aF c G H),.agg (aB h)] w fun r w'=>dJ w w' lo G H (gX c h) r):=by
 constructor
 case' left =>
  intro hs V N
  have mA:Hid (0=0):=rfl
 case' right =>
  intro hs V N
  have mB:Hid (0=0):=rfl
 all_goals
  have e:gX c h=done (fP c h 4 16 10).1 (rV (fP c h 4 16 10).2):=by simp [gX,hs,show ¬ h.cell<h.come by omega]
  rw [e]
  have T:=aA fun W a b=>rC c h 4 16 10 G H lo W a b a5 a6
  have I:=aA (rD c h 4 16 10)
  generalize fP c h 4 16 10=y at *
  have O:rV y.2=y.2:=by simp at N;simp [rV,N]
  rw [O]
  clear O
  have D:=aA fun v3 W=>bU y.1 (y.2) G v3 lo W
  generalize done y.1 (y.2)=x at *
  have b1:=kY h1
  have b2:=kY R
  have X:=nO b1
  have Y:=nO b2
  have aa:=X (w.heap.size) tO
  have ae:=Y (w.heap.size) tO
  have ab:=X (w+1) tO
  have af:=Y (w+1) tO
  have ac:=X (w+1+1) tO
  have ag:=Y (w+1+1) tO
  have ad:=X (w+1+1+1) tO
  have ah:=Y (w+1+1+1) tO
  have o1:=h1
  have o2:=R
  obtain ⟨a1,q1,e1,_⟩:=h1.seg
  obtain ⟨a2,q2,e2,_⟩:=R.seg
  subst e1 e2
  have a9:¬ h.cell<h.come:=by omega
  clear h1 R e V
  go_enter func205,ntmps205
  go_wp2_with fail
  refine (T.out _ (zO o1 o1) (zO o2 o2) (by simp;omega)).mono ?_
  rintro _ w1 ⟨v3,rfl,p1,p2,f3,U⟩
  have L:=U.2.2.2.1;(try (simp at L));have q:=xD U (b:=w);(try simp [go_sem] at q);replace bX:=dW q;clear q
  rw [← I.out]
  obtain ⟨a3,q3,rfl,_⟩:=p2.seg
  have K:jI (Value.slice a1 c.cells q1).ownBlock (Value.slice a2 c.words q2).ownBlock w w1:=gU (dR zB) U
  clear U
  obtain ⟨k0,k1,k2,k3⟩:=mF (a:=w) (b:=w1)
  go_wp2_with fail;refine aK w1 zB fun bk=>?_;refine (D.out _ _ (zO p1 p1) (zO p2 p2)).mono ?_;rintro _ w2 ⟨⟨y1,y2,rfl,E,F,Z,u⟩,m⟩;have M:=m.size;(try simp at M);have q:=BL m (b:=w);(first|simp [go_sem,bX,k0,k1,k2,k3] at q|simp [go_sem] at q|skip);replace bX:=dW q;clear q;have J:=bT bk m;clear m bk
  have a7:=gU K (dR J)
  replace u:=f3.trans u tS
  clear K f3
  obtain ⟨⟨z,A⟩,a0,a4⟩:=sO (w:=w) (w+1+1+1+1) Z u b1 b2;obtain ⟨ya,yp,rfl,_⟩:=E.seg;obtain ⟨yb,yq,rfl,_⟩:=F.seg
  go_wp2
  refine rE results205 rfl (aO x.1 (.slice ya x.1.cells yp) (.slice yb x.1.words yq) tY) rfl (aJ x.2.1 tY) ⟨⟨_,_,rfl,?_,?_,a0,a4⟩,by exact zN⟩
  ·exact zP E E z
  ·exact zP F F A
theorem FD (c:Ch) (h:Ha) (m q:Value) (lo:Nat) (w:World) (h1:aD w lo m c.cells) (A:aG w lo q c.words) (z:lo≤w.heap.size) (u:0≤h.cell) (y:h.cell<c.cells.length) (hs:h.seen=0) (D:h.come≤h.cell) (E:((fP c h 4 16 10).2.pos == 16)=false) :
  Calls prog 205 #[.agg (aF c m q),.agg (aB h)] w fun r w'=>dJ w w' lo m q (gX c h) r:=(uF c h m q lo w h1 A z u y).1 hs D E
theorem FH (c:Ch) (h:Ha) (m q:Value) (lo:Nat) (w:World) (h1:aD w lo m c.cells) (A:aG w lo q c.words) (z:lo≤w.heap.size) (u:0≤h.cell) (y:h.cell<c.cells.length) (hs:h.seen=1) (D:h.come≤h.cell) (E:((fP c h 4 16 10).2.pos == 16)=false) :
  Calls prog 205 #[.agg (aF c m q),.agg (aB h)] w fun r w'=>dJ w w' lo m q (gX c h) r:=(uF c h m q lo w h1 A z u y).2 hs D E
theorem FI (c:Ch) (h:Ha) (r u:Value) (lo:Nat) (w:World) (h1:aD w lo r c.cells) (y:aG w lo u c.words) (z:lo≤w.heap.size) (m:0≤h.cell) (q:h.cell<c.cells.length) :
  dG 205 c h r u lo w (gX c h):=by
 by_cases G:h.seen=2
 ·exact Mf c h r u lo w h1 y m q G
 ·by_cases H:h.seen=3
  ·exact Mg c h r u lo w h1 y m q (by simpa using H) (by simpa using G)
  ·by_cases D:h.seen=0
   ·by_cases F:h.cell<h.come
    ·exact Ju c h r u lo w h1 y m q D F
    ·cases A:(fP c h 4 16 10).2.pos == 16 with
     | true=>exact FB c h r u lo w h1 y z m q D tO A
     | false=>exact FD c h r u lo w h1 y z m q D tO A
   ·by_cases E:h.seen=1
    ·by_cases F:h.cell<h.come
     ·exact Jv c h r u lo w h1 y m q E F
     ·cases A:(fP c h 4 16 10).2.pos == 16 with
      | true=>exact FC c h r u lo w h1 y z m q E tO A
      | false=>exact FH c h r u lo w h1 y z m q E tO A
    ·exact Jw c h r u lo w h1 y (by simpa using G) (by simpa using H) (by simpa using D) (by simpa using E)
end
section
open Go.RowKit
def ic (w:World) (B:Nat) (x:Wo) (a b d e:Option Addr):Prop:=fA w B a x.ch.cells∧fD w B b x.ch.words∧pF w B d x.hands∧pG w B e x.deals
def jk (x:Wo):Prop:=x.ch.cells.length≤1048576∧x.ch.words.length≤1048576∧x.hands.length≤1048576∧x.deals.length≤1048576
end
end Go.Proofs.YtffhjmepfojhnaaGreat
