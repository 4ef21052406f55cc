/-
  More steps of receiving of the reference model, on hands and channels that are kept whole; lists lie in memory and hold at most 2 ^ 40 elements.
-/
import Derived.Test.YtffhjmepfojhnaaGreatS18
import Derived.BigRegion
import Derived.Test.YtffhjmepfojhnaaGreatS10
import Derived.Deep.RegionLaw
import Derived.Test.YtffhjmepfojhnaaGreatS16
import Derived.Test.YtffhjmepfojhnaaGreatS05
import Derived.Test.YtffhjmepfojhnaaGreatS01
set_option maxRecDepth 100000
set_option maxHeartbeats 2000000
set_option linter.unusedSimpArgs false
set_option linter.unusedVariables false
namespace Go.Proofs.YtffhjmepfojhnaaGreat
open _root_.Go.Proofs.Tryz
section
open Go.RowKit
attribute [local simp] aP
attribute [local go_sem ↓] aQ bF aY bY aZ bZ aX bB aN aU
theorem Mh (c:Ch) (h:Ha) (a b:Option Addr) (p q:Nat) (w:World) (h1:fA w w a c.cells) (z1:a=none→p=0) (h2:fD w w b c.words) (z2:b=none→q=0) (T:bJ c h 9 15 2=true) (a7:h.pos=14) :
  Calls prog 190 #[.agg (aF c (.slice a c.cells p) (.slice b c.words q)),.agg (aB h)] w fun r w'=>dE w w' (bL c h) r:=by
 obtain ⟨N,O,_,_⟩:=dC T
 obtain ⟨n1,n2⟩:=eU N
 have m1:c.cells.length≤1099511627776:=by omega
 have m2:c.words.length≤1099511627776:=by omega
 have H1:=aA h1
 have H2:=aA h2
 have Z1:=aA z1
 have Z2:=aA z2
 obtain ⟨c1,c2⟩:=il O
 obtain ⟨i,a6⟩:∃ i:Nat,h.cell=(i:Int):=⟨h.cell.toNat,by omega⟩
 have hi:i<c.cells.length:=by omega
 have e:bL c h=done (cB c i 7) (eQ h 0):=by simp [bL,T,a7,a6]
 rw [e]
 have ST:=aA fun v1 v2 W=>kQ c i 7 v1 v2 w W
 have D:=fun v1 v2 W=>bU (cB c i 7) (eQ h 0) v1 v2 w W
 simp only [lU,kU] at D
 generalize done (cB c i 7) (eQ h 0)=x at *
 replace D:=aA D
 clear h1 h2 z1 z2 e N O n1 n2 c1 c2
 go_enter func190,ntmps190
 go_wp2_with fail;refine aK w zB fun A=>?_;refine (dS c h 9 15 2 a b p q _ (aT H1 A) (aT H2 A)).mono ?_;rintro _ w1 ⟨rfl,G⟩;obtain ⟨a8,U,z⟩:=fH A G (b:=w);(try simp at U);(try simp [go_sem] at z);replace E:=dW z;clear z G A
 rw [T]
 go_wp2_with fail;refine aK w zB fun A=>?_;refine (dU c a b p q _ (aT H1 A) Z1.out (aT H2 A) Z2.out m1 m2).mono ?_;rintro _ M ⟨⟨v1,v2,rfl,R,o2⟩,H⟩;obtain ⟨a9,V,z⟩:=fH A H (b:=w);(try simp at V);(first|simp [go_sem,E] at z|simp [go_sem] at z|skip);replace E:=dW z;clear z H A
 have d1:=kG R (w+1+1+1+1)
 have d2:=kG o2 (w+1+1+1+1)
 have p1:=aH (lo':=w) R tO
 have p2:=aH (lo':=w) o2 tO
 obtain ⟨a1,q1,rfl,_⟩:=R.seg
 obtain ⟨a2,q2,rfl,_⟩:=o2.seg
 have nw:∀ j,(j<w.heap.size+1+1+1+1∨M.heap.size≤j)→some j≠(Value.slice a1 c.cells q1).ownBlock:=fun j hj e=>by have:=d1 _ e.symm;have:=(R.lt _ e.symm).2;omega
 have ad:=nw (w.heap.size) tO
 have ae:=nw (w+1) tO
 have af:=nw (w+1+1) tO
 have ag:=nw (w+1+1+1) tO
 have ah:=nw M tO
 obtain ⟨k0,N,O,k3⟩:=mF (a:=w) (b:=M)
 go_wp2_with fail
 go_region_held3 (fun w'=>hp w' M=some (.cells (aF c (.slice a1 c.cells q1) (.slice a2 c.words q2)) 31)∧hp w' (w+1)=some (.cells (aB h) 49)∧w'.cell? ⟨w+1,3,none⟩=some (.int .i64 i))
  (first|(simp [*,go_sem]))
  (first|(go_at_call 203;refine (ST.out _ _ _ (zO p1 R) (zO p2 o2) hi).mono ?_;rintro _ w4 ⟨rfl,s1,s2,y⟩;have Y:=y.size;(try (simp at Y));have z:=And.intro (bE y (b:=M) tS (by assumption)) <| And.intro (bE y (b:=w+1+1+1) tS (by assumption)) <| And.intro (bE y (b:=w+1+1) tS (by assumption)) <| And.intro (bE y (b:=w+1) tS (by assumption)) <| bE y (b:=w) tS (by assumption);(first|simp [go_sem,E,k0,N,O,k3] at z|simp [go_sem] at z|skip);replace E:=ll z;clear z;have ab:Below w w w4:=iN zB y tS (fun k T=>by have:=d1 k T;omega);clear y)|((go_at_call 206;refine aK w zB fun A=>?_;refine aK w4 zB fun bk=>?_;refine (rG _ _ _).mono ?_;rintro _ w5 ⟨rfl,m⟩;have ac:=bT A m;have Z:=m.size;(try simp at Z);have z:=And.intro (hQ m (b:=M)) <| And.intro (hQ m (b:=w+1+1+1)) <| And.intro (hQ m (b:=w+1+1)) <| And.intro (hQ m (b:=w+1)) <| hQ m (b:=w);(first|simp [go_sem,E,k0,N,O,k3] at z|simp [go_sem] at z|skip);replace E:=ll z;clear z;have F:=bT bk m;clear m A bk);have r1:=own_below s1 F;have r2:=own_below s2 F)|((go_at_call 198;refine aK w zB fun A=>?_;refine (D.out _ _ _ (zO r1 R) (zO r2 o2)).mono ?_;rintro _ w3 ⟨⟨y1,y2,rfl,K,L,a0,a3⟩,u⟩;have aa:=bT A u;have X:=u.size;(try simp at X);have z:=And.intro (hQ u (b:=M)) <| And.intro (hQ u (b:=w+1+1+1)) <| And.intro (hQ u (b:=w+1+1)) <| And.intro (hQ u (b:=w+1)) <| hQ u (b:=w);(first|simp [go_sem,E,k0,N,O,k3] at z|simp [go_sem] at z|skip);replace E:=ll z;clear z u A);obtain ⟨⟨I,J⟩,a4,a5⟩:=mW (w:=w) (w+1+1+1+1) a0 a3 d1 d2;obtain ⟨ya,yp,rfl,_⟩:=K.seg;obtain ⟨yb,yq,rfl,_⟩:=L.seg))
 all_goals go_wp2
 all_goals (refine rE results190 rfl (aO x.1 (.slice ya x.1.cells yp) (.slice yb x.1.words yq) tY) rfl (aJ x.2.1 tY) ⟨⟨_,_,rfl,?_,?_,a4,a5⟩,by exact zB⟩)
 all_goals (first|exact zP K K I|skip)
 all_goals (first|exact zP L L J|skip)
theorem Mi (c:Ch) (h:Ha) (a b:Option Addr) (p q:Nat) (w:World) (h1:fA w w a c.cells) (z1:a=none→p=0) (h2:fD w w b c.words) (z2:b=none→q=0) (T:bJ c h 9 15 2=true) (a7:h.pos=15) :
  Calls prog 190 #[.agg (aF c (.slice a c.cells p) (.slice b c.words q)),.agg (aB h)] w fun r w'=>dE w w' (bL c h) r:=by
 obtain ⟨N,O,_,_⟩:=dC T
 obtain ⟨n1,n2⟩:=eU N
 have m1:c.cells.length≤1099511627776:=by omega
 have m2:c.words.length≤1099511627776:=by omega
 have H1:=aA h1
 have H2:=aA h2
 have Z1:=aA z1
 have Z2:=aA z2
 obtain ⟨c1,c2⟩:=il O
 obtain ⟨i,a6⟩:∃ i:Nat,h.cell=(i:Int):=⟨h.cell.toNat,by omega⟩
 have hi:i<c.cells.length:=by omega
 have e:bL c h=done (cB c i 9) (begun h.code h.elem h.beg):=by simp [bL,T,a7,a6,anew]
 rw [e]
 have ST:=aA fun v1 v2 W=>kQ c i 9 v1 v2 w W
 have D:=fun v1 v2 W=>bU (cB c i 9) (begun h.code h.elem h.beg) v1 v2 w W
 simp only [lU,kU] at D
 generalize done (cB c i 9) (begun h.code h.elem h.beg)=x at *
 replace D:=aA D
 clear h1 h2 z1 z2 e N O n1 n2 c1 c2
 go_enter func190,ntmps190
 go_wp2_with fail;refine aK w zB fun A=>?_;refine (dS c h 9 15 2 a b p q _ (aT H1 A) (aT H2 A)).mono ?_;rintro _ w1 ⟨rfl,G⟩;obtain ⟨a8,U,z⟩:=fH A G (b:=w);(try simp at U);(try simp [go_sem] at z);replace E:=dW z;clear z G A
 rw [T]
 go_wp2_with fail;refine aK w zB fun A=>?_;refine (dU c a b p q _ (aT H1 A) Z1.out (aT H2 A) Z2.out m1 m2).mono ?_;rintro _ M ⟨⟨v1,v2,rfl,R,o2⟩,H⟩;obtain ⟨a9,V,z⟩:=fH A H (b:=w);(try simp at V);(first|simp [go_sem,E] at z|simp [go_sem] at z|skip);replace E:=dW z;clear z H A
 have d1:=kG R (w+1+1+1+1)
 have d2:=kG o2 (w+1+1+1+1)
 have p1:=aH (lo':=w) R tO
 have p2:=aH (lo':=w) o2 tO
 obtain ⟨a1,q1,rfl,_⟩:=R.seg
 obtain ⟨a2,q2,rfl,_⟩:=o2.seg
 have nw:∀ j,(j<w.heap.size+1+1+1+1∨M.heap.size≤j)→some j≠(Value.slice a1 c.cells q1).ownBlock:=fun j hj e=>by have:=d1 _ e.symm;have:=(R.lt _ e.symm).2;omega
 have ad:=nw (w.heap.size) tO
 have ae:=nw (w+1) tO
 have af:=nw (w+1+1) tO
 have ag:=nw (w+1+1+1) tO
 have ah:=nw M tO
 obtain ⟨k0,N,O,k3⟩:=mF (a:=w) (b:=M)
 go_wp2_with fail
 go_region_held3 (fun w'=>hp w' M=some (.cells (aF c (.slice a1 c.cells q1) (.slice a2 c.words q2)) 31)∧hp w' (w+1)=some (.cells (aB h) 49)∧w'.cell? ⟨w+1,3,none⟩=some (.int .i64 i))
  (first|(simp [*,go_sem]))
  (first|(go_at_call 203;refine (ST.out _ _ _ (zO p1 R) (zO p2 o2) hi).mono ?_;rintro _ w4 ⟨rfl,s1,s2,y⟩;have Y:=y.size;(try (simp at Y));have z:=And.intro (bE y (b:=M) tS (by assumption)) <| And.intro (bE y (b:=w+1+1+1) tS (by assumption)) <| And.intro (bE y (b:=w+1+1) tS (by assumption)) <| And.intro (bE y (b:=w+1) tS (by assumption)) <| bE y (b:=w) tS (by assumption);(first|simp [go_sem,E,k0,N,O,k3] at z|simp [go_sem] at z|skip);replace E:=ll z;clear z;have ab:Below w w w4:=iN zB y tS (fun k T=>by have:=d1 k T;omega);clear y)|((go_at_call 207;refine aK w zB fun A=>?_;refine aK w4 zB fun bk=>?_;refine (lJ _ _).mono ?_;rintro _ w5 ⟨rfl,m⟩;have ac:=bT A m;have Z:=m.size;(try simp at Z);have z:=And.intro (hQ m (b:=M)) <| And.intro (hQ m (b:=w+1+1+1)) <| And.intro (hQ m (b:=w+1+1)) <| And.intro (hQ m (b:=w+1)) <| hQ m (b:=w);(first|simp [go_sem,E,k0,N,O,k3] at z|simp [go_sem] at z|skip);replace E:=ll z;clear z;have F:=bT bk m;clear m A bk);have r1:=own_below s1 F;have r2:=own_below s2 F)|((go_at_call 198;refine aK w zB fun A=>?_;refine (D.out _ _ _ (zO r1 R) (zO r2 o2)).mono ?_;rintro _ w3 ⟨⟨y1,y2,rfl,K,L,a0,a3⟩,u⟩;have aa:=bT A u;have X:=u.size;(try simp at X);have z:=And.intro (hQ u (b:=M)) <| And.intro (hQ u (b:=w+1+1+1)) <| And.intro (hQ u (b:=w+1+1)) <| And.intro (hQ u (b:=w+1)) <| hQ u (b:=w);(first|simp [go_sem,E,k0,N,O,k3] at z|simp [go_sem] at z|skip);replace E:=ll z;clear z u A);obtain ⟨⟨I,J⟩,a4,a5⟩:=mW (w:=w) (w+1+1+1+1) a0 a3 d1 d2;obtain ⟨ya,yp,rfl,_⟩:=K.seg;obtain ⟨yb,yq,rfl,_⟩:=L.seg))
 all_goals go_wp2
 all_goals (refine rE results190 rfl (aO x.1 (.slice ya x.1.cells yp) (.slice yb x.1.words yq) tY) rfl (aJ x.2.1 tY) ⟨⟨_,_,rfl,?_,?_,a4,a5⟩,by exact zB⟩)
 all_goals (first|exact zP K K I|skip)
 all_goals (first|exact zP L L J|skip)
theorem wF (c:Ch) (h:Ha) (a b:Option Addr) (p q:Nat) (w:World) (h1:fA w w a c.cells) (z1:a=none→p=0) (h2:fD w w b c.words) (z2:b=none→q=0) (hk:bJ c h 9 15 2=true) (T:h.pos=13) :
  (∀ (H:eY c h.wait 1=true),Calls prog 190 #[.agg (aF c (.slice a c.cells p) (.slice b c.words q)),.agg (aB h)] w fun r w'=>dE w w' (bL c h) r) ∧
  (∀ (H:eY c h.wait 1=false),Calls prog 190 #[.agg (aF c (.slice a c.cells p) (.slice b c.words q)),.agg (aB h)] w fun r w'=>dE w w' (bL c h) r):=by
 constructor
 case' left =>
  intro H
  have O:Hid (0=0):=rfl
 case' right =>
  intro H
  have R:Hid (0=0):=rfl
 all_goals
  obtain ⟨Z,k2,_,_⟩:=dC hk
  obtain ⟨n1,n2⟩:=eU Z
  have m1:c.cells.length≤1099511627776:=by omega
  have m2:c.words.length≤1099511627776:=by omega
  have H1:=aA h1
  have H2:=aA h2
  have Z1:=aA z1
  have Z2:=aA z2
  first
  | (replace O:=O;have e:bL c h=done (dM c h.wait 1) ({ h with pos:=14 }):=by simp [bL,hk,T,vJ,H])
  | (replace R:=R;have e:bL c h=done (dM c h.wait 1) ({ h with pos:=15 }):=by simp [bL,hk,T,vJ,H])
  rw [e]
  have K:=fun a b p q W x1 x2 x3 x4=>qm c h.wait 1 a b p q W x1 x2 x3 x4 m1 m2
  first
  | (replace O:=O;have D:=fun v1 v2 W=>bU (dM c h.wait 1) ({ h with pos:=14 }) v1 v2 w W)
  | (replace R:=R;have D:=fun v1 v2 W=>bU (dM c h.wait 1) ({ h with pos:=15 }) v1 v2 w W)
  simp only [tN,rH] at D
  rw [H] at K
  first
  | (replace O:=O;generalize done (dM c h.wait 1) ({ h with pos:=14 })=x at *)
  | (replace R:=R;generalize done (dM c h.wait 1) ({ h with pos:=15 })=x at *)
  generalize (dM c h.wait 1).words=tw at *
  replace K:=aA K
  replace D:=aA D
  clear H
  clear h1 h2 z1 z2 e Z k2 n1 n2
  go_enter func190,ntmps190
  go_wp2_with fail;refine aK w zB fun y=>?_;refine (dS c h 9 15 2 a b p q _ (aT H1 y) (aT H2 y)).mono ?_;rintro _ w1 ⟨rfl,z⟩;obtain ⟨a6,U,u⟩:=fH y z (b:=w);(try simp at U);(try simp [go_sem] at u);replace N:=dW u;clear u z y
  rw [hk]
  go_wp2_with fail;refine aK w zB fun y=>?_;refine (dU c a b p q _ (aT H1 y) Z1.out (aT H2 y) Z2.out m1 m2).mono ?_;rintro _ w2 ⟨⟨v1,v2,rfl,o1,o2⟩,A⟩;obtain ⟨a7,V,u⟩:=fH y A (b:=w);(try simp at V);(first|simp [go_sem,N] at u|simp [go_sem] at u|skip);replace N:=dW u;clear u A y
  have d1:=kG o1 (w+1+1+1+1)
  have d2:=kG o2 (w+1+1+1+1)
  have p1:=aH (lo':=w) o1 tO
  have p2:=aH (lo':=w) o2 tO
  obtain ⟨a1,q1,rfl,_⟩:=o1.seg
  obtain ⟨a2,q2,rfl,_⟩:=o2.seg
  obtain ⟨k0,Z,k2,k3⟩:=mF (a:=w) (b:=w2)
  go_wp2_with fail;refine aK w zB fun y=>?_;refine aK w2 zB fun bk=>?_;refine (K.out _ _ _ _ _ (aT H1 y) Z1.out (aT H2 y) Z2.out).mono ?_;rintro _ w4 ⟨⟨u1,u2,rfl,L,M⟩,m⟩;have a9:=bT y m;have Y:=m.size;(try simp at Y);have u:=And.intro (hQ m (b:=w2)) <| And.intro (hQ m (b:=w+1+1+1)) <| And.intro (hQ m (b:=w+1+1)) <| And.intro (hQ m (b:=w+1)) <| hQ m (b:=w);(first|simp [go_sem,N,k0,Z,k2,k3] at u|simp [go_sem] at u|skip);replace N:=ll u;clear u;have aa:=bT bk m;clear m y bk
  try simp at L M
  have d3:=kG L (w+1+1+1+1)
  have d4:=kG M (w+1+1+1+1)
  clear d1 d2
  have d1:=d3
  have d2:=d4
  clear d3 d4
  have s1:=aH (lo':=w) L tO
  have s2:=aH (lo':=w) M tO
  have b3:=fun j (hj:u1.ownBlock=some j)=>(L.lt j hj).1
  have b4:=fun j (hj:u2.ownBlock=some j)=>(M.lt j hj).1
  have g3:u1.ownBlock≠some w2.heap.size:=fun e=>by have:=b3 _ e;omega
  have g4:u2.ownBlock≠some w2.heap.size:=fun e=>by have:=b4 _ e;omega
  obtain ⟨ua,up,rfl,_⟩:=L.seg
  obtain ⟨ub,uq,rfl,_⟩:=M.seg
  go_wp2_with fail;refine aK w zB fun y=>?_;refine (D.out _ _ _ (by (repeat first|with_reducible exact s1|with_reducible refine rQ ?_ _|with_reducible refine qh ?_|((with_reducible first|refine aI ?_ ?_ _|refine dZ ?_ ?_);rotate_left;focus first|(refine own_ne L ?_;(try dsimp only);omega)|(refine dN L ?_;(try dsimp only);omega)|exact g3))) (by (repeat first|with_reducible exact s2|with_reducible refine rQ ?_ _|with_reducible refine qh ?_|((with_reducible first|refine aI ?_ ?_ _|refine dZ ?_ ?_);rotate_left;focus first|(refine own_ne M ?_;(try dsimp only);omega)|(refine dN M ?_;(try dsimp only);omega)|exact g4)))).mono ?_;rintro _ w3 ⟨⟨y1,y2,rfl,I,J,a0,a3⟩,E⟩;obtain ⟨a8,X,u⟩:=fH y E (b:=w);(try simp at X);(first|simp [go_sem,N,k0,Z,k2,k3] at u|simp [go_sem] at u|skip);replace N:=dW u;clear u E y
  obtain ⟨⟨F,G⟩,a4,a5⟩:=mW (w:=w) (w+1+1+1+1) a0 a3 d1 d2;obtain ⟨ya,yp,rfl,_⟩:=I.seg;obtain ⟨yb,yq,rfl,_⟩:=J.seg
  go_wp2
  refine rE results190 rfl (aO x.1 (.slice ya x.1.cells yp) (.slice yb x.1.words yq) tY) rfl (aJ x.2.1 tY) ⟨⟨_,_,rfl,?_,?_,a4,a5⟩,by exact zB⟩
  ·exact zP I I F
  ·exact zP J J G
theorem Jy (c:Ch) (h:Ha) (a b:Option Addr) (p q:Nat) (w:World) (h1:fA w w a c.cells) (A:a=none→p=0) (u:fD w w b c.words) (D:b=none→q=0) (y:bJ c h 9 15 2=true) (m:h.pos=13) (z:eY c h.wait 1=true) :
  Calls prog 190 #[.agg (aF c (.slice a c.cells p) (.slice b c.words q)),.agg (aB h)] w fun r w'=>dE w w' (bL c h) r:=(wF c h a b p q w h1 A u D y m).1 z
theorem Jz (c:Ch) (h:Ha) (a b:Option Addr) (p q:Nat) (w:World) (h1:fA w w a c.cells) (A:a=none→p=0) (u:fD w w b c.words) (D:b=none→q=0) (y:bJ c h 9 15 2=true) (m:h.pos=13) (z:eY c h.wait 1=false) :
  Calls prog 190 #[.agg (aF c (.slice a c.cells p) (.slice b c.words q)),.agg (aB h)] w fun r w'=>dE w w' (bL c h) r:=(wF c h a b p q w h1 A u D y m).2 z
end
section
open Go.RowKit
attribute [local simp] aP
attribute [local go_sem ↓] aQ bF aY bY aZ bZ aX bB aN aU
theorem J2 (c:Ch) (h:Ha) (a b:Option Addr) (p q:Nat) (w:World) (h1:fA w w a c.cells) (z1:a=none→p=0) (H:fD w w b c.words) (z2:b=none→q=0) (O:bJ c h 9 15 2=true) (R:h.pos=10) (hs:(cellAt c h.cell).s=6) :
    Calls prog 190 #[.agg (aF c (.slice a c.cells p) (.slice b c.words q)),.agg (aB h)] w fun r w'=>dE w w' (bL c h) r:=by
  obtain ⟨T,U,_,_⟩:=dC O
  obtain ⟨n1,n2⟩:=eU T
  have m1:c.cells.length≤1099511627776:=by omega
  have m2:c.words.length≤1099511627776:=by omega
  have L:=aA h1
  have X:=aA H
  have Z1:=aA z1
  have Z2:=aA z2
  obtain ⟨c1,c2⟩:=il U
  obtain ⟨i,M⟩:∃ i:Nat,h.cell=(i:Int):=⟨h.cell.toNat,by omega⟩
  have hi:i<c.cells.length:=by omega
  have e:bL c h=(c,h,false):=by simp [bL,O,R,uw,hs]
  rw [e]
  obtain ⟨m,bo,rfl,hb,A⟩:∃ D o,a=some ⟨D,o,none⟩∧D<w.heap.size∧w.cell? ⟨D,o+i*3,none⟩=some (.int .i64 (cellAt c h.cell).s):=by
    rcases L.out with h0|⟨D,o',e,h1,H⟩
    · omega
    · exact ⟨D,o',e,h1,by simpa [iq,cellAt,M,C3.val] using H i 0 hi tO⟩
  generalize (cellAt c h.cell).s=s at *
  subst hs
  clear h1 H z1 z2 e T U n1 n2 c1 c2
  go_enter func190,ntmps190
  go_wp2_with fail;refine aK w zB fun m=>?_;refine (dS c h 9 15 2 _ b p q _ (aT L m) (aT X m)).mono ?_;rintro _ w1 ⟨rfl,u⟩;obtain ⟨Z,F,z⟩:=fH m u (b:=w);(try simp at F);(try simp [go_sem] at z);replace Y:=dW z;clear z u m
  rw [O]
  go_wp2_with fail;refine aK w zB fun m=>?_;refine (dU c _ b p q _ (aT L m) Z1.out (aT X m) Z2.out m1 m2).mono ?_;rintro _ V ⟨⟨v1,v2,rfl,J,K⟩,y⟩;obtain ⟨E,G,z⟩:=fH m y (b:=w);(try simp at G);(first|simp [go_sem,Y] at z|simp [go_sem] at z|skip);replace Y:=dW z;clear z y m
  have d1:=kG J (w+1+1+1+1)
  have d2:=kG K (w+1+1+1+1)
  have p1:=aH (lo':=w) J tO
  have p2:=aH (lo':=w) K tO
  obtain ⟨a1,q1,rfl,_⟩:=J.seg
  obtain ⟨a2,q2,rfl,_⟩:=K.seg
  obtain ⟨k0,T,U,k3⟩:=mF (a:=w) (b:=V)
  have I:=(E.cell (p:=⟨m,bo+i*3,none⟩) hb).trans A
  have a4:(0:Int)≤(i:Int):=by omega
  have a5:(i:Int)<(c.cells.length:Int):=by omega
  have a0:m<V.heap.size:=by omega
  have a3:m≠V.heap.size:=by omega
  go_wp2_with fail
  go_region
  all_goals go_wp2
  all_goals (refine rE results190 rfl (aO c (.slice a1 c.cells q1) (.slice a2 c.words q2) tY) rfl (aJ h tY) ⟨⟨_,_,rfl,?_,?_,fun j N=>.inr (by have:=d1 j N;omega),fun j N=>.inr (by have:=d2 j N;omega)⟩,by exact zB⟩)
  all_goals first|(show aD _ _ _ c.cells;exact zO p1 J)|skip
  all_goals first|(show aG _ _ _ c.words;exact zO p2 K)|skip
theorem wG (c:Ch) (h:Ha) (a b:Option Addr) (p q:Nat) (w:World) (h1:fA w w a c.cells) (z1:a=none→p=0) (h2:fD w w b c.words) (z2:b=none→q=0) (hk:bJ c h 9 15 2=true) (a5:h.pos=10) (hs:((cellAt c h.cell).s == 6)=false) :
    (∀ (R:(iY c h).2=true),Calls prog 190 #[.agg (aF c (.slice a c.cells p) (.slice b c.words q)),.agg (aB h)] w fun r w'=>dE w w' (bL c h) r) ∧
    (∀ (R:(iY c h).2=false),Calls prog 190 #[.agg (aF c (.slice a c.cells p) (.slice b c.words q)),.agg (aB h)] w fun r w'=>dE w w' (bL c h) r):=by
  constructor
  case' left =>
    intro R
    have V:Hid (0=0):=rfl
  case' right =>
    intro R
    have X:Hid (0=0):=rfl
  all_goals
    obtain ⟨T,U,_,_⟩:=dC hk
    obtain ⟨n1,n2⟩:=eU T
    have m1:c.cells.length≤1099511627776:=by omega
    have m2:c.words.length≤1099511627776:=by omega
    have H1:=aA h1
    have H2:=aA h2
    have Z1:=aA z1
    have Z2:=aA z2
    obtain ⟨c1,c2⟩:=il U
    obtain ⟨i,ac⟩:∃ i:Nat,h.cell=(i:Int):=⟨h.cell.toNat,by omega⟩
    have hi:i<c.cells.length:=by omega
    first
    | (replace V:=V;have e:bL c h=done c ((iY c h).1):=by simp at hs;simp [bL,hk,a5,uw,hs,R])
    | (replace X:=X;have e:bL c h=nothing:=by simp at hs;simp [bL,hk,a5,uw,hs,R])
    rw [e]
    obtain ⟨u,bo,rfl,hb,M⟩:∃ Y o,a=some ⟨Y,o,none⟩∧Y<w.heap.size∧w.cell? ⟨Y,o+i*3,none⟩=some (.int .i64 (cellAt c h.cell).s):=by
      rcases H1.out with h0|⟨Y,o',e,h1,h2⟩
      · omega
      · exact ⟨Y,o',e,h1,by simpa [iq,cellAt,ac,C3.val] using h2 i 0 hi tO⟩
    generalize (cellAt c h.cell).s=s at *
    have K:=fun W x1=>Fj c h (some ⟨u,bo,none⟩) b p q W x1 c1 tO
    rw [R] at K
    first
    | (replace V:=V
       have D:=aA fun v1 v2 W=>bU (c) ((iY c h).1) v1 v2 w W
       generalize done c ((iY c h).1)=x at *)
    | (replace X:=X
       have D:=aA fun W=>iX W w (.slice none 0 0) (.slice none 0 0)
       generalize nothing=x at *)
    generalize (iY c h).1=y at *
    replace K:=aA K
    clear h1 h2 z1 z2 e T U n1 n2 c1 c2
    go_enter func190,ntmps190
    go_wp2_with fail;refine aK w zB fun u=>?_;refine (dS c h 9 15 2 _ b p q _ (aT H1 u) (aT H2 u)).mono ?_;rintro _ w1 ⟨rfl,J⟩;obtain ⟨ad,a6,z⟩:=fH u J (b:=w);(try simp at a6);(try simp [go_sem] at z);replace H:=dW z;clear z J u
    rw [hk]
    go_wp2_with fail;refine aK w zB fun u=>?_;refine (dU c _ b p q _ (aT H1 u) Z1.out (aT H2 u) Z2.out m1 m2).mono ?_;rintro _ w2 ⟨⟨v1,v2,rfl,o1,o2⟩,L⟩;obtain ⟨a3,a7,z⟩:=fH u L (b:=w);(try simp at a7);(first|simp [go_sem,H] at z|simp [go_sem] at z|skip);replace H:=dW z;clear z L u
    have d1:=kG o1 (w+1+1+1+1)
    have d2:=kG o2 (w+1+1+1+1)
    have p1:=aH (lo':=w) o1 tO
    have p2:=aH (lo':=w) o2 tO
    obtain ⟨a1,q1,rfl,_⟩:=o1.seg
    obtain ⟨a2,q2,rfl,_⟩:=o2.seg
    obtain ⟨k0,T,U,k3⟩:=mF (a:=w) (b:=w2)
    have a9:=(a3.cell (p:=⟨u,bo+i*3,none⟩) hb).trans M
    have ah:(0:Int)≤(i:Int):=by omega
    have ai:(i:Int)<(c.cells.length:Int):=by omega
    have af:u<w2.heap.size:=by omega
    have ag:u≠w2.heap.size:=by omega
    go_wp2_with fail;refine aK w zB fun u=>?_;refine aK w2 zB fun bk=>?_;refine (K.out _ (aT H1 u)).mono ?_;rintro _ w4 ⟨rfl,m⟩;have ae:=bT u m;have a8:=m.size;(try simp at a8);have z:=And.intro (hQ m (b:=w2)) <| And.intro (hQ m (b:=w+1+1+1)) <| And.intro (hQ m (b:=w+1+1)) <| And.intro (hQ m (b:=w+1)) <| hQ m (b:=w);(first|simp [go_sem,H,k0,T,U,k3] at z|simp [go_sem] at z|skip);replace H:=ll z;clear z;have I:=bT bk m;clear m u bk
    have s1:=own_below p1 I
    have s2:=own_below p2 I
    first
    | (replace V:=V;go_wp2_with fail;refine aK w zB fun u=>?_;refine (D.out _ _ _ (zO s1 o1) (zO s2 o2)).mono ?_;rintro _ w3 ⟨⟨y1,y2,rfl,F,G,Z,a0⟩,A⟩;obtain ⟨a4,E,z⟩:=fH u A (b:=w);(try simp at E);(first|simp [go_sem,H,k0,T,U,k3] at z|simp [go_sem] at z|skip);replace H:=dW z;clear z A u)
    | (replace X:=X
       go_wp2_with fail;refine aK w zB fun u=>?_;refine (D.out _).mono ?_;rintro _ w3 ⟨⟨y1,y2,rfl,F,G,Z,a0⟩,A⟩;obtain ⟨a4,E,z⟩:=fH u A (b:=w);(try simp at E);(first|simp [go_sem,H,k0,T,U,k3] at z|simp [go_sem] at z|skip);replace H:=dW z;clear z A u
       have d3:∀ j,(Value.slice none 0 0).ownBlock=some j→w.heap.size+1+1+1+1≤j:=fun j hj=>by cases hj
       clear d1 d2
       have d1:=d3
       have d2:=d3)
    obtain ⟨⟨N,O⟩,aa,ab⟩:=mW (w:=w) (w+1+1+1+1) Z a0 d1 d2;obtain ⟨ya,yp,rfl,_⟩:=F.seg;obtain ⟨yb,yq,rfl,_⟩:=G.seg
    go_wp2
    refine rE results190 rfl (aO x.1 (.slice ya x.1.cells yp) (.slice yb x.1.words yq) tY) rfl (aJ x.2.1 tY) ⟨⟨_,_,rfl,?_,?_,aa,ab⟩,by exact zB⟩
    · exact zP F F N
    · exact zP G G O
theorem J3 (c:Ch) (h:Ha) (a b:Option Addr) (p q:Nat) (w:World) (h1:fA w w a c.cells) (A:a=none→p=0) (u:fD w w b c.words) (D:b=none→q=0) (y:bJ c h 9 15 2=true) (m:h.pos=10) (hs:((cellAt c h.cell).s == 6)=false) (z:(iY c h).2=true) :
    Calls prog 190 #[.agg (aF c (.slice a c.cells p) (.slice b c.words q)),.agg (aB h)] w fun r w'=>dE w w' (bL c h) r:=(wG c h a b p q w h1 A u D y m hs).1 z
theorem J4 (c:Ch) (h:Ha) (a b:Option Addr) (p q:Nat) (w:World) (h1:fA w w a c.cells) (A:a=none→p=0) (u:fD w w b c.words) (D:b=none→q=0) (y:bJ c h 9 15 2=true) (m:h.pos=10) (hs:((cellAt c h.cell).s == 6)=false) (z:(iY c h).2=false) :
    Calls prog 190 #[.agg (aF c (.slice a c.cells p) (.slice b c.words q)),.agg (aB h)] w fun r w'=>dE w w' (bL c h) r:=(wG c h a b p q w h1 A u D y m hs).2 z
end
section
open Go.RowKit
attribute [local simp] aP
attribute [local go_sem ↓] aQ bF aY bY aZ bZ aX bB aN aU
theorem Mj (c:Ch) (i m:Int) (a b:Value):aF (nR c i m) a b=aF c a b:=rfl
theorem J5 (c:Ch) (i m:Int):(nR c i m).words=c.words:=rfl
theorem OT (c:Ch) (h:Ha) (a b:Option Addr) (p q:Nat) (w:World) (h1:fA w w a c.cells) (z1:a=none→p=0) (h2:fD w w b c.words) (z2:b=none→q=0) (hk:bJ c h 1 8 1=true) (aj:h.pos=2) :
  Calls prog 189 #[.agg (aF c (.slice a c.cells p) (.slice b c.words q)),.agg (aB h)] w fun r w'=>dE w w' (bI c h) r:=by
 obtain ⟨Z,k2,_,_⟩:=dC hk
 obtain ⟨n1,n2⟩:=eU Z
 have m1:c.cells.length≤1099511627776:=by omega
 have m2:c.words.length≤1099511627776:=by omega
 have H1:=aA h1
 have H2:=aA h2
 have Z1:=aA z1
 have Z2:=aA z2
 obtain ⟨c1,c2⟩:=il k2
 obtain ⟨i,ah⟩:∃ i:Nat,h.cell=(i:Int):=⟨h.cell.toNat,by omega⟩
 have hi:i<c.cells.length:=by omega
 have e:bI c h=done (nR c i h.elem) { h with pos:=3,cell:=(i:Int) }:=by simp [bI,hk,aj,ah,Hg] <;> rfl
 rw [e]
 have D:=fun v1 v2 W=>bU (nR c i h.elem) { h with pos:=3,cell:=(i:Int) } v1 v2 w W
 have a4:(nR c i h.elem).cells=c.cells.set i ⟨(c.cells.getD i ⟨0,0,0⟩).s,mE (c.cells.getD i ⟨0,0,0⟩).s (c.cells.getD i ⟨0,0,0⟩).e (c.cells.getD i ⟨0,0,0⟩).t h.elem,(c.cells.getD i ⟨0,0,0⟩).t⟩:=by simp [nR,setAt,cellAt]
 rw [a4] at D
 simp only [Mj,J5] at D
 generalize done (nR c i h.elem) { h with pos:=3,cell:=(i:Int) }=x at *
 clear a4
 replace D:=aA D
 clear h1 h2 z1 z2 e Z k2 n1 n2 c1 c2
 go_enter func189,ntmps189
 go_wp2_with fail;refine aK w zB fun E=>?_;refine (dS c h 1 8 1 a b p q _ (aT H1 E) (aT H2 E)).mono ?_;rintro _ w1 ⟨rfl,M⟩;obtain ⟨ak,a5,y⟩:=fH E M (b:=w);(try simp at a5);(try simp [go_sem] at y);replace J:=dW y;clear y M E
 rw [hk]
 go_wp2_with fail;refine aK w zB fun E=>?_;refine (dU c a b p q _ (aT H1 E) Z1.out (aT H2 E) Z2.out m1 m2).mono ?_;rintro _ H ⟨⟨v1,v2,rfl,R,o2⟩,N⟩;obtain ⟨al,a6,y⟩:=fH E N (b:=w);(try simp at a6);(first|simp [go_sem,J] at y|simp [go_sem] at y|skip);replace J:=dW y;clear y N E
 have d1:=kG R (w+1+1+1+1)
 have d2:=kG o2 (w+1+1+1+1)
 have p1:=aH (lo':=w) R tO
 have p2:=aH (lo':=w) o2 tO
 obtain ⟨a1,q1,rfl,_⟩:=R.seg
 obtain ⟨a2,q2,rfl,_⟩:=o2.seg
 have nw:∀ j,(j<w.heap.size+1+1+1+1∨H.heap.size≤j)→some j≠(Value.slice a1 c.cells q1).ownBlock:=fun j hj e=>by have:=d1 _ e.symm;have:=(R.lt _ e.symm).2;omega
 have ay:=nw (w.heap.size) tO
 have az:=nw (w+1) tO
 have b0:=nw (w+1+1) tO
 have b1:=nw (w+1+1+1) tO
 have b2:=nw H tO
 obtain ⟨k0,Z,k2,k3⟩:=mF (a:=w) (b:=H)
 obtain ⟨g,cap,hv,aq,I,A,ai⟩:=R.open1 hi
 simp at hv
 obtain ⟨rfl,rfl⟩:=hv
 have HO:=aA R
 have HP:=aA p1
 generalize c.cells.getD i ⟨0,0,0⟩=x0 at *
 obtain ⟨s,e,t⟩:=x0
 have g0:=A 0 tO
 have g1:=A 1 tO
 have g2:=A 2 tO
 simp only [C3.val,Nat.add_zero] at g0 g1 g2
 have ao:(0:Int)≤(i:Int):=by omega
 have ap:(i:Int)<(c.cells.length:Int):=by omega
 have F:∀ j,(j<w.heap.size+1+1+1+1∨H.heap.size≤j)→g≠j:=fun j hj e=>nw j hj (by simp [Value.ownBlock,e])
 have ar:=F w tO
 have au:=F (w+1) tO
 have av:=F (w+1+1) tO
 have aw:=F (w+1+1+1) tO
 have ax:=F H tO
 have T:=aD.ne R o2 g (by simp [Value.ownBlock])
 clear A R p1
 go_wp2_with fail
 refine wp_region_held_drew (S:=fun w'=>w'.cell? ⟨H,4,none⟩=some (.slice (some ⟨g,0,none⟩) c.cells q1)∧w'.cell? ⟨w+1,3,none⟩=some (.int .i64 i)∧w'.cell? ⟨w+1,2,none⟩=some (.int .i64 h.elem)) (by kernel_rfl) (by simp [*,go_sem]) (fun a3=>?_)
 refine mT (i:=0) (oi:=⟨some 43,_,_,_,_,_⟩) rfl ?_;(try simp only [bW])
 refine mT (i:=1) (oi:=⟨some 44,_,_,_,_,_⟩) rfl ?_;(try simp only [bW])
 refine mT (i:=2) (oi:=⟨some 45,_,_,_,_,_⟩) rfl ?_;(try simp only [bW])
 refine mT (i:=3) (oi:=⟨some 46,_,_,_,_,_⟩) rfl ?_;(try simp only [bW])
 refine mT (i:=4) (oi:=⟨some 47,_,_,_,_,_⟩) rfl ?_;(try simp only [bW])
 refine mT (i:=5) (oi:=⟨some 48,_,_,_,_,_⟩) rfl ?_;(try simp only [bW])
 refine mT (i:=6) (oi:=⟨some 49,_,_,_,_,_⟩) rfl ?_;(try simp only [bW])
 refine mT (i:=7) (oi:=⟨some 50,_,_,_,_,_⟩) rfl ?_;(try simp only [bW])
 refine mT (i:=8) (oi:=⟨some 51,_,_,_,_,_⟩) rfl ?_;(try simp only [bW])
 refine mT (i:=10) (oi:=⟨some 53,_,_,_,_,_⟩) rfl ?_;(try simp only [bW])
 refine mT (i:=11) (oi:=⟨some 54,_,_,_,_,_⟩) rfl ?_;(try simp only [bW])
 refine mT (i:=12) (oi:=⟨some 55,_,_,_,_,_⟩) rfl ?_;(try simp only [bW])
 refine wpAnyH_ready (rs:=[9]) (by kernel_rfl) (by simp) ?_
 refine AllReadyH.cons (o:=⟨some 52,_,_,_,_,_⟩) rfl (fun K L=>?_) AllReadyH.nil
 go_simp
 refine L.out _ _ a3 (fun ag=>?_)
 clear L
 (try simp only [bW])
 refine wpAnyH_ready (rs:=[13]) (by kernel_rfl) (by simp) ?_
 refine AllReadyH.cons (o:=⟨some 56,_,_,_,_,_⟩) rfl (fun K L=>?_) AllReadyH.nil
 go_simp
 go_at_call 199
 refine (IL s e t h.elem _).mono ?_
 rintro _ w4 ⟨rfl,m⟩
 have a0:Below w w w4:=bT zB m
 have z:Below H H w4:=bT zB m
 have y0:=(z.cell (p:=⟨g,i*3,none⟩) I).trans g0
 have y1:=(z.cell (p:=⟨g,i*3+1,none⟩) I).trans g1
 have y2:=(z.cell (p:=⟨g,i*3+2,none⟩) I).trans g2
 have yf:=fun o=>(z.frozen (p:=⟨g,o,none⟩) I).trans (ai o)
 have a8:=m.size;(try simp at a8);have y:=And.intro (hQ m (b:=H)) <| And.intro (hQ m (b:=w+1+1+1)) <| And.intro (hQ m (b:=w+1+1)) <| And.intro (hQ m (b:=w+1)) <| hQ m (b:=w);(first|simp [go_sem,J,k0,Z,k2,k3] at y|simp [go_sem] at y|skip);replace J:=ll y;clear y m
 refine L.out _ _ (by simp [*,go_sem]) (fun ae=>?_)
 clear L
 (try simp only [bW])
 refine mT (i:=14) (oi:=⟨some 57,_,_,_,_,_⟩) rfl ?_;(try simp only [bW])
 refine wpAnyH_ready (rs:=[15]) (by kernel_rfl) (by simp) ?_
 refine AllReadyH.cons (o:=⟨none,_,_,_,_,_⟩) rfl (fun K L=>?_) AllReadyH.nil
 go_simp
 refine L.out _ _ (by simp [*,go_sem]) (fun af=>?_)
 clear L
 (try simp only [bW])
 refine wpAnyH_done (by kernel_rfl) ?_ _
 obtain ⟨w5,G⟩:∃ w5,w5=((w4.setCell ⟨g,i*3,none⟩ (.int .i64 s)).setCell ⟨g,i*3+1,none⟩ (.int .i64 (mE s e t h.elem))).setCell ⟨g,i*3+2,none⟩ (.int .i64 t):=⟨_,rfl⟩
 have r1:aD w5 w1 (.slice (some ⟨g,0,none⟩) c.cells q1) (c.cells.set i ⟨s,mE s e t h.elem,t⟩):=by rw [G];simpa using aD.set (own_below HO.out z) hi ⟨s,mE s e t h.elem,t⟩
 have r2:aG w5 w1 (.slice a2 c.words q2) c.words:=by rw [G];exact aI (aI (aI (own_below o2 z) T _) T _) T _
 have u:w4.grownBy w5 (Value.slice (some ⟨g,0,none⟩) c.cells q1).ownBlock:=by rw [G];exact gS (gS (gS (gR _ _) (.inl rfl)) (.inl rfl)) (.inl rfl)
 rw [← G]
 clear G
 have a9:=u.size;(try (simp at a9));have y:=And.intro (bE u (b:=H) tS (by assumption)) <| And.intro (bE u (b:=w+1+1+1) tS (by assumption)) <| And.intro (bE u (b:=w+1+1) tS (by assumption)) <| And.intro (bE u (b:=w+1) tS (by assumption)) <| bE u (b:=w) tS (by assumption);(first|simp [go_sem,J,k0,Z,k2,k3] at y|simp [go_sem] at y|skip);replace J:=ll y;clear y
 have an:Below w w w5:=iN a0 u tO (fun k hk=>by have:=d1 k hk;omega)
 clear u y0 y1 y2 yf a3 ag ae af
 have s1:=aH (lo':=w) r1 tO
 have s2:=aH (lo':=w) r2 tO
 go_wp2_with fail;refine aK w zB fun E=>?_;refine (D.out _ _ _ (zO s1 r1) (zO s2 r2)).mono ?_;rintro _ w3 ⟨⟨y1,y2,rfl,X,Y,aa,ab⟩,O⟩;obtain ⟨am,a7,y⟩:=fH E O (b:=w);(try simp at a7);(first|simp [go_sem,J,k0,Z,k2,k3] at y|simp [go_sem] at y|skip);replace J:=dW y;clear y O E
 obtain ⟨⟨U,V⟩,ac,ad⟩:=mW (w:=w) (w+1+1+1+1) aa ab d1 d2;obtain ⟨ya,yp,rfl,_⟩:=X.seg;obtain ⟨yb,yq,rfl,_⟩:=Y.seg
 go_wp2
 refine rE results189 rfl (aO x.1 (.slice ya x.1.cells yp) (.slice yb x.1.words yq) tY) rfl (aJ x.2.1 tY) ⟨⟨_,_,rfl,?_,?_,ac,ad⟩,by exact zB⟩
 ·exact zP X X U
 ·exact zP Y Y V
end
section
open Go.RowKit
attribute [local simp] aP
attribute [local go_sem ↓] aQ bF aY bY aZ bZ aX bB aN aU
theorem Dr (c:Ch) (h:Ha) (v1 v2:Value) (lo:Nat) (w:World) (h1:aD w lo v1 c.cells) (h2:aG w lo v2 c.words) (af:0≤h.cell) (ag:h.cell<c.cells.length) :
  dG 240 c h v1 v2 lo w ((nR c h.cell h.elem,{ h with pos:=3 },true)):=by
 obtain ⟨i,a0⟩:∃ i:Nat,h.cell=(i:Int):=⟨h.cell.toNat,by omega⟩
 have hi:i<c.cells.length:=by omega
 have ah:(0:Int)≤(i:Int):=by omega
 have ai:(i:Int)<(c.cells.length:Int):=by omega
 have a1:=h1.ne h2
 obtain ⟨a2,q2,rfl,_⟩:=h2.seg
 obtain ⟨g,q1,rfl,ad,Y,M,aa⟩:=h1.open1 hi
 have O1:=aA h1
 have O2:=aA h2
 have aj:g<w.heap.size+1:=by omega
 have ak:g<w.heap.size+1+1:=by omega
 have al:g<w.heap.size+1+1+1:=by omega
 have aq:g≠w.heap.size:=by omega
 have ar:g≠w.heap.size+1:=by omega
 have au:g≠w.heap.size+1+1:=by omega
 have av:g≠w.heap.size+1+1+1:=by omega
 have am:w.heap.size≠g:=by omega
 have an:w.heap.size+1≠g:=by omega
 have ao:w.heap.size+1+1≠g:=by omega
 have ap:w.heap.size+1+1+1≠g:=by omega
 have hx:Hid (cellAt c h.cell=c.cells.getD i ⟨0,0,0⟩):=by simp [cellAt,Hid,a0]
 have c0:=M 0 tO
 have c1:=M 1 tO
 have c2:=M 2 tO
 simp only [C3.val,Nat.add_zero] at c0 c1 c2
 rw [show nR c h.cell h.elem=nR c i h.elem by rw [a0]]
 have ab:Hid ((nR c i h.elem).cells=c.cells.set i ⟨(c.cells.getD i ⟨0,0,0⟩).s,mE (c.cells.getD i ⟨0,0,0⟩).s (c.cells.getD i ⟨0,0,0⟩).e (c.cells.getD i ⟨0,0,0⟩).t h.elem,(c.cells.getD i ⟨0,0,0⟩).t⟩):=by simp [nR,setAt,cellAt,Hid]
 clear hx M h1 h2
 generalize c.cells.getD i ⟨0,0,0⟩=x at *
 obtain ⟨s,e,t⟩:=x
 simp only at c0 c1 c2
 have o1:=O1.out
 have o2:=O2.out
 go_enter func240,ntmps240
 go_wp2_with fail
 refine wp_region_held_drew (S:=fun w'=>w'.cell? ⟨w,4,none⟩=some (.slice (some ⟨g,0,none⟩) c.cells q1)∧w'.cell? ⟨w+1,3,none⟩=some (.int .i64 i)∧w'.cell? ⟨w+1,2,none⟩=some (.int .i64 h.elem)) (by kernel_rfl) (by simp [*,go_sem]) (fun a3=>?_)
 refine mT (i:=0) (oi:=⟨some 7,_,_,_,_,_⟩) rfl ?_;(try simp only [bW])
 refine mT (i:=1) (oi:=⟨some 8,_,_,_,_,_⟩) rfl ?_;(try simp only [bW])
 refine mT (i:=2) (oi:=⟨some 9,_,_,_,_,_⟩) rfl ?_;(try simp only [bW])
 refine mT (i:=3) (oi:=⟨some 10,_,_,_,_,_⟩) rfl ?_;(try simp only [bW])
 refine mT (i:=4) (oi:=⟨some 11,_,_,_,_,_⟩) rfl ?_;(try simp only [bW])
 refine mT (i:=5) (oi:=⟨some 12,_,_,_,_,_⟩) rfl ?_;(try simp only [bW])
 refine mT (i:=6) (oi:=⟨some 13,_,_,_,_,_⟩) rfl ?_;(try simp only [bW])
 refine mT (i:=7) (oi:=⟨some 14,_,_,_,_,_⟩) rfl ?_;(try simp only [bW])
 refine mT (i:=8) (oi:=⟨some 15,_,_,_,_,_⟩) rfl ?_;(try simp only [bW])
 refine mT (i:=10) (oi:=⟨some 17,_,_,_,_,_⟩) rfl ?_;(try simp only [bW])
 refine mT (i:=11) (oi:=⟨some 18,_,_,_,_,_⟩) rfl ?_;(try simp only [bW])
 refine mT (i:=12) (oi:=⟨some 19,_,_,_,_,_⟩) rfl ?_;(try simp only [bW])
 refine wpAnyH_ready (rs:=[9]) (by kernel_rfl) (by simp) ?_
 refine AllReadyH.cons (o:=⟨some 16,_,_,_,_,_⟩) rfl (fun K Z=>?_) AllReadyH.nil
 go_simp
 refine Z.out _ _ a3 (fun a9=>?_)
 clear Z
 (try simp only [bW])
 refine wpAnyH_ready (rs:=[13]) (by kernel_rfl) (by simp) ?_
 refine AllReadyH.cons (o:=⟨some 20,_,_,_,_,_⟩) rfl (fun K Z=>?_) AllReadyH.nil
 go_simp
 go_at_call 248
 refine (Li s e t h.elem _).mono ?_
 rintro _ w4 ⟨rfl,T⟩
 have G:Below w w w4:=bT zB T
 have y0:=(G.cell (p:=⟨g,i*3,none⟩) Y).trans c0
 have y1:=(G.cell (p:=⟨g,i*3+1,none⟩) Y).trans c1
 have y2:=(G.cell (p:=⟨g,i*3+2,none⟩) Y).trans c2
 have yf:=fun o=>(G.frozen (p:=⟨g,o,none⟩) Y).trans (aa o)
 have a4:=T.size;(try simp at a4);have E:=q4 T (b:=w);(try simp [go_sem] at E);(try clear m A z r);(try clear q J F y);(try clear u O N I);(try clear L X U R);obtain ⟨m,q,u,L⟩:=E;obtain ⟨A,z,r⟩:=bO m;obtain ⟨J,F,y⟩:=bO q;obtain ⟨O,N,I⟩:=bO u;obtain ⟨X,U,R⟩:=bO L;clear T
 refine Z.out _ _ (by simp [*,go_sem]) (fun a7=>?_)
 clear Z
 (try simp only [bW])
 refine mT (i:=14) (oi:=⟨some 21,_,_,_,_,_⟩) rfl ?_;(try simp only [bW])
 refine wpAnyH_ready (rs:=[15]) (by kernel_rfl) (by simp) ?_
 refine AllReadyH.cons (o:=⟨none,_,_,_,_,_⟩) rfl (fun K Z=>?_) AllReadyH.nil
 go_simp
 refine Z.out _ _ (by simp [*,go_sem]) (fun a8=>?_)
 clear Z
 (try simp only [bW])
 refine wpAnyH_done (by kernel_rfl) ?_ _
 obtain ⟨w5,V⟩:∃ w5,w5=((w4.setCell ⟨g,i*3,none⟩ (.int .i64 s)).setCell ⟨g,i*3+1,none⟩ (.int .i64 (mE s e t h.elem))).setCell ⟨g,i*3+2,none⟩ (.int .i64 t):=⟨_,rfl⟩
 have r1:aD w5 lo (.slice (some ⟨g,0,none⟩) c.cells q1) (nR c i h.elem).cells:=by rw [V];rw [ab.out];simpa using aD.set (own_below o1 G) hi ⟨s,(mE s e t h.elem),t⟩
 have r2:aG w5 lo (.slice a2 c.words q2) c.words:=by rw [V];exact aI (aI (aI (own_below o2 G) (a1 g rfl) _) (a1 g rfl) _) (a1 g rfl) _
 have H:w4.grownBy w5 (some g):=by rw [V];exact gS (gS (gS (gR _ _) (.inl rfl)) (.inl rfl)) (.inl rfl)
 rw [← V]
 clear V
 have aw:some w.heap.size≠some g:=by simp;omega
 have ax:some (w.heap.size+1)≠some g:=by simp;omega
 have ay:some (w.heap.size+1+1)≠some g:=by simp;omega
 have az:some (w.heap.size+1+1+1)≠some g:=by simp;omega
 have a5:=H.size;(try (simp at a5));have E:=And.intro (bE H (b:=w+1+1+1) tS (by assumption)) <| And.intro (bE H (b:=w+1+1) tS (by assumption)) <| And.intro (bE H (b:=w+1) tS (by assumption)) <| bE H (b:=w) tS (by assumption);(first|simp [go_sem,m,q,u,L,R,I,y,r] at E|simp [go_sem] at E|skip);(try clear m A z r);(try clear q J F y);(try clear u O N I);(try clear L X U R);obtain ⟨m,q,u,L⟩:=E;obtain ⟨A,z,r⟩:=bO m;obtain ⟨J,F,y⟩:=bO q;obtain ⟨O,N,I⟩:=bO u;obtain ⟨X,U,R⟩:=bO L
 have ae:Gr g w w5:=gT (rf G) H
 clear H
 clear y0 y1 y2 yf a3 a9 a7 a8
 go_wp2_with fail
 go_region_held3 (fun w'=>hp w' w=some (.cells (aF c (.slice (some ⟨g,0,none⟩) c.cells q1) (.slice a2 c.words q2)) 31)∧hp w' (w+1)=some (.cells (aB h) 49))
  (first|(simp [*,go_sem]))
  (first|(go_at_call 247;refine (dL _ _ _).mono ?_;rintro _ w6 ⟨rfl,D⟩;have ac:Gr g w w6:=gT zG (rf D);have a6:=D.size;(try (simp at a6));have E:=hQ D (b:=w);(first|(simp [go_sem,L,R] at E)|(simp [go_sem] at E));(try clear X U);(try clear L);have L:=E;clear E;(try clear R);obtain ⟨X,U,R⟩:=bO L;have E:=hQ D (b:=w+1);(first|(simp [go_sem,u,I] at E)|(simp [go_sem] at E));(try clear O N);(try clear u);have u:=E;clear E;(try clear I);obtain ⟨O,N,I⟩:=bO u;have E:=hQ D (b:=w+1+1);(first|(simp [go_sem,q,y] at E)|(simp [go_sem] at E));(try clear J F);(try clear q);have q:=E;clear E;(try clear y);obtain ⟨J,F,y⟩:=bO q;have E:=hQ D (b:=w+1+1+1);(first|(simp [go_sem,m,r] at E)|(simp [go_sem] at E));(try clear A z);(try clear m);have m:=E;clear E;(try clear r);obtain ⟨A,z,r⟩:=bO m;have p1:aD w6 lo (.slice (some ⟨g,0,none⟩) c.cells q1) (nR c i h.elem).cells:=own_below (zO r1 o1) D;have p2:aG w6 lo (.slice a2 c.words q2) c.words:=own_below (zO r2 o2) D))
 go_wp2
 refine rE results240 rfl (aO (nR c i h.elem) (.slice (some ⟨g,0,none⟩) c.cells q1) (.slice a2 c.words q2) tZ) rfl (aJ { h with pos:=3 } (by simp [go_sem, *] <;> first|rfl|simp [cZ,anew,a0])) ⟨⟨_,_,rfl,?_,?_,aM _ _,aM _ _⟩,mY (show w.grownBy _ (some g) from zG)⟩
 ·show aD _ lo (.slice (some ⟨g,0,none⟩) c.cells q1) (nR c i h.elem).cells
  exact zO p1 o1
 ·show aG _ lo (.slice a2 c.words q2) c.words
  exact zO p2 o2
end
section
open Go.RowKit
attribute [local simp] aP
attribute [local go_sem ↓] aQ bF aY bY aZ bZ aX bB aN aU
def pE (c:Ch) (h:Ha):St:=if bQ c h.cell h.seen 2 0 then (bK c h.cell h.seen 2 0,aV 1 0,true) else (c,{ h with pos:=3 },true)
def OU (c:Ch) (h:Ha):St:=zw c 3 { h with pos:=23 } { h with pos:=3 }
def PH (c:Ch) (h:Ha):St:=BN c { h with pos:=8 } (anew h)
theorem qJ (c:Ch) (h:Ha) (V X:Value) (lo:Nat) (w:World) (h1:aD w lo V c.cells) (h2:aG w lo X c.words) :
    (∀ (a3:0≤h.cell) (a4:h.cell<c.cells.length) (hc:aW c=true) (O:lo≤w.heap.size),Calls prog 252 #[.agg (aF c V X),.agg (aB h)] w fun r w'=>dJ w w' lo V X (OU c h) r) ∧
    (∀ (hc:aW c=true) (O:lo≤w.heap.size) (hk:eB h.code h.elem=true),Calls prog 245 #[.agg (aF c V X),.agg (aB h)] w fun r w'=>dJ w w' lo V X (PH c h) r):=by
  constructor
  case' left =>
    intro a3 a4 hc O
    have z:Hid (0=0):=rfl
  case' right =>
    intro hc O hk
    have A:Hid (0=0):=rfl
  all_goals
    first
    | (replace z:=z
       have T0:=fun W a b hl=>wD c 3 { h with pos:=23 } { h with pos:=3 } V X lo W a b a3 a4 hc hl
       change ∀ W,_→_→_→Calls _ _ _ _ (fun r w'=>StepB W w' lo V X (OU c h) r) at T0
       generalize OU c h=x at *)
    | (replace A:=A
       have T0:=fun W a b hl=>tL c { h with pos:=8 } (anew h) V X lo W a b hc hl
       change ∀ W,_→_→_→Calls _ _ _ _ (fun r w'=>StepB W w' lo V X (PH c h) r) at T0
       generalize PH c h=x at *)
    obtain ⟨M,R,N,U,rfl,rfl,O1,O2,b1,b2⟩:=rR h1 h2
    clear h1 h2
    have T:=aA T0
    clear T0
    have o1:=O1.out
    have o2:=O2.out
    first
    | (replace z:=z;go_enter func252,ntmps252)
    | (replace A:=A;go_enter func245,ntmps245)
    go_upto_region 1 with fail
    first
    | (replace z:=z;refine iT [[],[],[1],[],[3],[0,1,2,3,4],[0,1,2,3,4,5],[0,1,2,3,4,5],[0,1,2,3,4,5],[0,1,2,3,4,5,6],[0,1,2,3,4,5,7],[0,1,2,3,4,5,8]] [7,8,9,10,11,12,13,14,15,6] (fun l s y=>(Below w w y)∧(w+1+1+1+1≤y.heap.size)∧(hp y w=some (.cells (aF c (.slice M c.cells R) (.slice N c.words U)) 31))∧(hp y (w+1)=some (.cells (aB h) 49))∧(hp y (w+1+1)=some (.cells (cond (l 9) (aF x.1 (s 1003) (s 1004)) (aF Ch.zero (.slice none 0 0) (.slice none 0 0))) 31))∧(hp y (w+1+1+1)=some (.cells (cond (l 10) (aB x.2.1) (aB Ha.zero)) 49))∧(aD y lo (.slice M c.cells R) c.cells)∧(aG y lo (.slice N c.words U) c.words)∧(l 0=true→s 7=.agg (aF c (.slice M c.cells R) (.slice N c.words U)))∧(l 1=true→s 8=.agg (aB h))∧(l 2=true→s 9=.agg (aB ({ h with pos:=23 })))∧(l 3=true→s 10=.agg (aB h))∧(l 4=true→s 11=.agg (aB ({ h with pos:=3 })))∧(l 5=true→s 12=.tuple #[.agg (aF x.1 (s 1003) (s 1004)),.agg (aB x.2.1),.bool x.2.2]∧aD y lo (s 1003) x.1.cells∧aG y lo (s 1004) x.1.words∧fC w (.slice M c.cells R) (s 1003)∧fC w (.slice N c.words U) (s 1004))∧(l 6=true→s 13=.agg (aF x.1 (s 1003) (s 1004)))∧(l 7=true→s 14=.agg (aB x.2.1))∧(l 8=true→s 15=.bool x.2.2)∧(l 11=true→s 6=.bool x.2.2)) (fun s=>⟨by exact zB,by simp,by simp [go_sem],by simp [go_sem],by simp [go_sem],by simp [go_sem],by exact zO o1 o1,by exact zO o2 o2,nB,nB,nB,nB,nB,nB,nB,nB,nB,nB⟩) ?_ ?_)
    | (replace A:=A;refine iT [[],[],[1],[],[3],[0,1,2,3,4],[0,1,2,3,4,5],[0,1,2,3,4,5],[0,1,2,3,4,5],[0,1,2,3,4,5,6],[0,1,2,3,4,5,7],[0,1,2,3,4,5,8]] [7,8,9,10,11,12,13,14,15,6] (fun l s y=>(Below w w y)∧(w+1+1+1+1≤y.heap.size)∧(hp y w=some (.cells (aF c (.slice M c.cells R) (.slice N c.words U)) 31))∧(hp y (w+1)=some (.cells (aB h) 49))∧(hp y (w+1+1)=some (.cells (cond (l 9) (aF x.1 (s 1003) (s 1004)) (aF Ch.zero (.slice none 0 0) (.slice none 0 0))) 31))∧(hp y (w+1+1+1)=some (.cells (cond (l 10) (aB x.2.1) (aB Ha.zero)) 49))∧(aD y lo (.slice M c.cells R) c.cells)∧(aG y lo (.slice N c.words U) c.words)∧(l 0=true→s 7=.agg (aF c (.slice M c.cells R) (.slice N c.words U)))∧(l 1=true→s 8=.agg (aB h))∧(l 2=true→s 9=.agg (aB ({ h with pos:=8 })))∧(l 3=true→s 10=.agg (aB h))∧(l 4=true→s 11=.agg (aB (anew h)))∧(l 5=true→s 12=.tuple #[.agg (aF x.1 (s 1003) (s 1004)),.agg (aB x.2.1),.bool x.2.2]∧aD y lo (s 1003) x.1.cells∧aG y lo (s 1004) x.1.words∧fC w (.slice M c.cells R) (s 1003)∧fC w (.slice N c.words U) (s 1004))∧(l 6=true→s 13=.agg (aF x.1 (s 1003) (s 1004)))∧(l 7=true→s 14=.agg (aB x.2.1))∧(l 8=true→s 15=.bool x.2.2)∧(l 11=true→s 6=.bool x.2.2)) (fun s=>⟨by exact zB,by simp,by simp [go_sem],by simp [go_sem],by simp [go_sem],by simp [go_sem],by exact zO o1 o1,by exact zO o2 o2,nB,nB,nB,nB,nB,nB,nB,nB,nB,nB⟩) ?_ ?_)
    refine ⟨?_,?_,?_,?_,?_,?_,?_,?_,?_,?_,?_,?_,trivial⟩;iterate 12 (intro l s y hl I u m K G;rotate_left)
    · intro l s y D m
      have hB:=m.1
      have z1:=m.2.2.2.2.1
      have z2:=(jC m).2.1
      rw [D 9 rfl] at z1
      rw [D 10 rfl] at z2
      dsimp only [cond] at z1 z2
      obtain ⟨_,J,L,Y,Z⟩:=((jC (jD m)).2.1 (D 5 rfl))
      have ec:=((jE m).2 (D 11 rfl))
      simp only [ec]
      clear ec m D
      go_wp2
      first
      | (replace z:=z;exact bodyPost_ret (jZ results252 rfl (aO x.1 _ _ z1) rfl (aJ x.2.1 z2)) rfl ⟨⟨_,_,rfl,J,L,Y,Z⟩,dR hB⟩)
      | (replace A:=A;exact bodyPost_ret (jZ results245 rfl (aO x.1 _ _ z1) rfl (aJ x.2.1 z2)) rfl ⟨⟨_,_,rfl,J,L,Y,Z⟩,dR hB⟩)
    · have zc:=m.out.2.2.1
      go_simp
      refine G.out (upd s 7 (.agg (aF c (.slice M c.cells R) (.slice N c.words U)))) _ _ (by simp [aC] <;> rfl) (kD (kX (fun _=>rfl) id) m.out)
    · have zh:=m.out.2.2.2.1
      go_simp
      refine G.out (upd s 8 (.agg (aB h))) _ _ (by simp [aC] <;> rfl) (kD (kA (kX (fun _=>rfl) id)) m.out)
    · have e1:=((jD m.out).2.1 (I 1 rfl))
      go_simp
      go_at_call 247
      first
      | (replace z:=z;refine (dL h 23 _).mono ?_)
      | (replace A:=A;refine (dL h 8 _).mono ?_)
      rintro _ wy ⟨rfl,q⟩
      first
      | (replace z:=z;refine G.out (upd s 9 (.agg (aB ({ h with pos:=23 })))) _ _ (by simp [aC,e1] <;> rfl) (kX (bT m.out.1 q) (kX (Nat.le_trans m.out.2.1 (Below.size q)) (kX (eP m.out.2.2.1 q) (kX (eP m.out.2.2.2.1 q) (kX (eP m.out.2.2.2.2.1 q) (kX (eP (jC m.out).2.1 q) (kX (own_below (jC m.out).2.2.1 q) (kX (own_below (jC m.out).2.2.2.1 q) (kB (kX (fun _=>rfl) (kB (kX (nU (u 5 rfl)) (kX (nU (u 6 rfl)) (kX (nU (u 7 rfl)) (kX (nU (u 8 rfl)) (fun _=>nU (u 11 rfl)))))))))))))))) m.out))
      | (replace A:=A;refine G.out (upd s 9 (.agg (aB ({ h with pos:=8 })))) _ _ (by simp [aC,e1] <;> rfl) (kX (bT m.out.1 q) (kX (Nat.le_trans m.out.2.1 (Below.size q)) (kX (eP m.out.2.2.1 q) (kX (eP m.out.2.2.2.1 q) (kX (eP m.out.2.2.2.2.1 q) (kX (eP (jC m.out).2.1 q) (kX (own_below (jC m.out).2.2.1 q) (kX (own_below (jC m.out).2.2.2.1 q) (kB (kX (fun _=>rfl) (kB (kX (nU (u 5 rfl)) (kX (nU (u 6 rfl)) (kX (nU (u 7 rfl)) (kX (nU (u 8 rfl)) (fun _=>nU (u 11 rfl)))))))))))))))) m.out))
    · have zh:=m.out.2.2.2.1
      go_simp
      refine G.out (upd s 10 (.agg (aB h))) _ _ (by simp [aC] <;> rfl) (kD (kB (kA (kX (fun _=>rfl) id))) m.out)
    · have e3:=((jD m.out).2.2.2.1 (I 3 rfl))
      go_simp
      first
      | (replace z:=z
         go_at_call 247
         refine (dL h 3 _).mono ?_)
      | (replace A:=A
         go_at_call 250
         refine (pX h hk _).mono ?_)
      rintro _ wy ⟨rfl,q⟩
      first
      | (replace z:=z;refine G.out (upd s 11 (.agg (aB ({ h with pos:=3 })))) _ _ (by simp [aC,e3] <;> rfl) (kX (bT m.out.1 q) (kX (Nat.le_trans m.out.2.1 (Below.size q)) (kX (eP m.out.2.2.1 q) (kX (eP m.out.2.2.2.1 q) (kX (eP m.out.2.2.2.2.1 q) (kX (eP (jC m.out).2.1 q) (kX (own_below (jC m.out).2.2.1 q) (kX (own_below (jC m.out).2.2.2.1 q) (kC (kX (fun _=>rfl) (kX (nU (u 5 rfl)) (kX (nU (u 6 rfl)) (kX (nU (u 7 rfl)) (kX (nU (u 8 rfl)) (fun _=>nU (u 11 rfl))))))))))))))) m.out))
      | (replace A:=A;refine G.out (upd s 11 (.agg (aB (anew h)))) _ _ (by simp [aC,e3] <;> rfl) (kX (bT m.out.1 q) (kX (Nat.le_trans m.out.2.1 (Below.size q)) (kX (eP m.out.2.2.1 q) (kX (eP m.out.2.2.2.1 q) (kX (eP m.out.2.2.2.2.1 q) (kX (eP (jC m.out).2.1 q) (kX (own_below (jC m.out).2.2.1 q) (kX (own_below (jC m.out).2.2.2.1 q) (kC (kX (fun _=>rfl) (kX (nU (u 5 rfl)) (kX (nU (u 6 rfl)) (kX (nU (u 7 rfl)) (kX (nU (u 8 rfl)) (fun _=>nU (u 11 rfl))))))))))))))) m.out))
    · have e0:=((jD m.out).1 (I 0 rfl))
      have e2:=((jD m.out).2.2.1 (I 2 rfl))
      have e4:=((jC (jD m.out)).1 (I 4 rfl))
      go_simp
      first
      | (replace z:=z;go_at_call 255)
      | (replace A:=A;go_at_call 253)
      refine (T.out _ (jC m.out).2.2.1 (jC m.out).2.2.2.1 (Nat.le_trans O (Below.size m.out.1))).mono ?_
      rintro _ wy ⟨⟨y1,y2,rfl,J,L,Y,Z⟩,q⟩
      refine G.out (upd (upd (upd s 1003 (y1)) 1004 (y2)) 12 (.tuple #[.agg (aF x.1 y1 y2),.agg (aB x.2.1),.bool x.2.2])) _ _ (by simp [aC,e0,e2,e4] <;> rfl) (kX (bT m.out.1 q) (kX (Nat.le_trans m.out.2.1 (Below.size q)) (kX (eP m.out.2.2.1 q) (kX (eP m.out.2.2.2.1 q) (kX (by (have ee:l 9=false:=u 9 rfl);(have F:=m.out.2.2.2.2.1);rw [ee] at F;rw [show upd l 5 true 9=false from ee];exact eP F q) (kX (by (have ee:l 10=false:=u 10 rfl);(have F:=(jC m.out).2.1);rw [ee] at F;rw [show upd l 5 true 10=false from ee];exact eP F q) (kX (own_below (jC m.out).2.2.1 q) (kX (own_below (jC m.out).2.2.2.1 q) (kC (kA (kX (fun _=>⟨rfl,J,L,fun j hj=>(Y j hj).imp id (fun h=>Nat.le_trans (Below.size m.out.1) h),fun j hj=>(Z j hj).imp id (fun h=>Nat.le_trans (Below.size m.out.1) h)⟩) (kX (nU (u 6 rfl)) (kX (nU (u 7 rfl)) (kX (nU (u 8 rfl)) (fun _=>nU (u 11 rfl))))))))))))))) m.out)
    · have H:=((jC (jD m.out)).2.1 (I 5 rfl)).1
      go_simp
      refine G.out (upd s 13 (.agg (aF x.1 (s 1003) (s 1004)))) _ _ (by simp [aC,H] <;> rfl) (kD (kC (kB (kX (fun _=>rfl) id))) m.out)
    · have H:=((jC (jD m.out)).2.1 (I 5 rfl)).1
      go_simp
      refine G.out (upd s 14 (.agg (aB x.2.1))) _ _ (by simp [aC,H] <;> rfl) (kD (kC (kB (kA (kX (fun _=>rfl) id)))) m.out)
    · have H:=((jC (jD m.out)).2.1 (I 5 rfl)).1
      go_simp
      refine G.out (upd s 15 (.bool x.2.2)) _ _ (by simp [aC,H] <;> rfl) (kE (kX (fun _=>rfl) id) m.out)
    · have e6:=((jC (jD m.out)).2.2.1 (I 6 rfl))
      have H:=((jC (jD m.out)).2.1 (I 5 rfl))
      have J:=H.2.1
      have L:=H.2.2.1
      clear H
      have E:=m.out.2.2.2.2.1
      rw [hl] at E
      dsimp only [cond] at E
      obtain ⟨xa,xp,ea,_⟩:=J.seg
      obtain ⟨xb,xq,a0,_⟩:=L.seg
      rw [ea,a0] at e6
      have zn:hp (dF y (w+1+1) (aF x.1 (.slice xa x.1.cells xp) (.slice xb x.1.words xq))) (w+1+1)=some (.cells (aF x.1 (s 1003) (s 1004)) 31):=by rw [ea,a0];exact ib E
      have hB:=m.out.1
      go_simp
      refine G.out (s) _ _ (by simp [aC,e6,ea,a0] <;> rfl) (kX (BK hB tO) (kX (Nat.le_trans m.out.2.1 (Nat.le_of_eq aP.symm)) (kX ((aR tO).trans m.out.2.2.1) (kX ((aR tO).trans m.out.2.2.2.1) (kX (zn) (kX ((aR tO).trans (jC m.out).2.1) (kX (dI (jC m.out).2.2.1 E (by decide)) (kX (dI (jC m.out).2.2.2.1 E (by decide)) (kC (kA (kX (fun h=>(let ⟨e,J,L,Y,Z⟩:=(jC (jD m.out)).2.1 h;⟨e,dI J E (by decide),dI L E (by decide),Y,Z⟩)) id)))))))))) m.out)
    · have e7:=((jC (jD m.out)).2.2.2.1 (I 7 rfl))
      have H:=((jC (jD m.out)).2.1 (I 5 rfl))
      have J:=H.2.1
      have L:=H.2.2.1
      clear H
      have E:=(jC m.out).2.1
      rw [hl] at E
      dsimp only [cond] at E
      have zn:hp (dF y (w+1+1+1) (aB x.2.1)) (w+1+1+1)=some (.cells (aB x.2.1) 49):=by exact ib E
      have hB:=m.out.1
      go_simp
      refine G.out (s) _ _ (by simp [aC,e7] <;> rfl) (kX (BK hB tO) (kX (Nat.le_trans m.out.2.1 (Nat.le_of_eq aP.symm)) (kX ((aR tO).trans m.out.2.2.1) (kX ((aR tO).trans m.out.2.2.2.1) (kX ((aR tO).trans m.out.2.2.2.2.1) (kX (zn) (kX (dI (jC m.out).2.2.1 E (by decide)) (kX (dI (jC m.out).2.2.2.1 E (by decide)) (kC (kA (kX (fun h=>(let ⟨e,J,L,Y,Z⟩:=(jC (jD m.out)).2.1 h;⟨e,dI J E (by decide),dI L E (by decide),Y,Z⟩)) id)))))))))) m.out)
    · have e8:=((jE m.out).1 (I 8 rfl))
      go_simp
      refine G.out (upd s 6 (.bool x.2.2)) _ _ (by simp [aC,e8] <;> rfl) (kE (kA (fun _=>fun _=>rfl)) m.out)
theorem Ar (c:Ch) (h:Ha) (m q:Value) (lo:Nat) (w:World) (h1:aD w lo m c.cells) (A:aG w lo q c.words) (u:0≤h.cell) (y:h.cell<c.cells.length) (D:aW c=true) (z:lo≤w.heap.size) :
    Calls prog 252 #[.agg (aF c m q),.agg (aB h)] w fun r w'=>dJ w w' lo m q (OU c h) r:=(qJ c h m q lo w h1 A).1 u y D z
theorem Au (c:Ch) (h:Ha) (m q:Value) (lo:Nat) (w:World) (h1:aD w lo m c.cells) (y:aG w lo q c.words) (z:aW c=true) (u:lo≤w.heap.size) (A:eB h.code h.elem=true) :
    Calls prog 245 #[.agg (aF c m q),.agg (aB h)] w fun r w'=>dJ w w' lo m q (PH c h) r:=(qJ c h m q lo w h1 y).2 z u A
end
end Go.Proofs.YtffhjmepfojhnaaGreat
