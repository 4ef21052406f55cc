/-
  More steps of growing of the reference model, on hands and channels that are kept whole; lists lie in memory and hold at most 2 ^ 40 elements.
-/
import Derived.Test.YtffhjmepfojhnaaGreatS23
import Derived.Test.YtffhjmepfojhnaaGreatS21
import Derived.Test.YtffhjmepfojhnaaGreatS22
import Derived.Test.YtffhjmepfojhnaaGreatS12
import Derived.Test.YtffhjmepfojhnaaGreatS04
import Derived.Test.YtffhjmepfojhnaaGreatS01
import Derived.Test.YtffhjmepfojhnaaGreatS24
import Derived.Test.YtffhjmepfojhnaaGreatS08
import Derived.Test.YtffhjmepfojhnaaGreatS10
import Derived.Test.YtffhjmepfojhnaaGreatS03
set_option maxRecDepth 100000
set_option maxHeartbeats 4000000
set_option linter.unusedSimpArgs false
set_option linter.unusedVariables false
namespace Go.Proofs.YtffhjmepfojhnaaGreat
open _root_.Go.Proofs.Tryz
section
open Go.RowKit
attribute [local simp] aP
attribute [local go_sem ↓] aQ bF aY bY aZ bZ aX bB aN aU
theorem JH (c:Ch) (h:Ha) (a b:Option Addr) (p q:Nat) (w:World) (h1:fA w w a c.cells) (z1:a=none→p=0) (H:fD w w b c.words) (z2:b=none→q=0) (O:bJ c h 16 22 2=true) (R:h.pos=18) (hs:(cellAt c h.grow).s=5) :
  Calls prog 191 #[.agg (aF c (.slice a c.cells p) (.slice b c.words q)),.agg (aB h)] w fun r w'=>dE w w' (bP c h) r:=by
 obtain ⟨T,U,_,_⟩:=dC O
 obtain ⟨n1,n2⟩:=eU T
 have m1:c.cells.length≤1099511627776:=by omega
 have m2:c.words.length≤1099511627776:=by omega
 have L:=aA h1
 have X:=aA H
 have Z1:=aA z1
 have Z2:=aA z2
 obtain ⟨c1,c2⟩:=nY U
 obtain ⟨i,M⟩:∃ i:Nat,h.grow=(i:Int):=⟨h.grow.toNat,by omega⟩
 have hi:i<c.cells.length:=by omega
 have e:bP c h=(c,h,false):=by simp [bP,O,R,l7,hs]
 rw [e]
 obtain ⟨m,bo,rfl,hb,A⟩:∃ D o,a=some ⟨D,o,none⟩∧D<w.heap.size∧w.cell? ⟨D,o+i*3,none⟩=some (.int .i64 (cellAt c h.grow).s):=by
  rcases L.out with h0|⟨D,o',e,h1,H⟩
  ·omega
  ·exact ⟨D,o',e,h1,by simpa [iq,cellAt,M,C3.val] using H i 0 hi tO⟩
 generalize (cellAt c h.grow).s=s at *
 subst hs
 clear h1 H z1 z2 e T U n1 n2 c1 c2
 go_enter func191,ntmps191
 go_wp2_with fail;refine aK w zB fun m=>?_;refine (dS c h 16 22 2 _ b p q _ (aT L m) (aT X m)).mono ?_;rintro _ w1 ⟨rfl,u⟩;obtain ⟨Z,F,z⟩:=fH m u (b:=w);(try simp at F);(try simp [go_sem] at z);replace Y:=dW z;clear z u m
 rw [O]
 go_wp2_with fail;refine aK w zB fun m=>?_;refine (dU c _ b p q _ (aT L m) Z1.out (aT X m) Z2.out m1 m2).mono ?_;rintro _ V ⟨⟨v1,v2,rfl,J,K⟩,y⟩;obtain ⟨E,G,z⟩:=fH m y (b:=w);(try simp at G);(first|simp [go_sem,Y] at z|simp [go_sem] at z|skip);replace Y:=dW z;clear z y m
 have d1:=kG J (w+1+1+1+1)
 have d2:=kG K (w+1+1+1+1)
 have p1:=aH (lo':=w) J tO
 have p2:=aH (lo':=w) K tO
 obtain ⟨a1,q1,rfl,_⟩:=J.seg
 obtain ⟨a2,q2,rfl,_⟩:=K.seg
 obtain ⟨k0,T,U,k3⟩:=mF (a:=w) (b:=V)
 have I:=(E.cell (p:=⟨m,bo+i*3,none⟩) hb).trans A
 have a4:(0:Int)≤(i:Int):=by omega
 have a5:(i:Int)<(c.cells.length:Int):=by omega
 have a0:m<V.heap.size:=by omega
 have a3:m≠V.heap.size:=by omega
 go_wp2_with fail
 go_region
 all_goals go_wp2
 all_goals (refine rE results191 rfl (aO c (.slice a1 c.cells q1) (.slice a2 c.words q2) tY) rfl (aJ h tY) ⟨⟨_,_,rfl,?_,?_,fun j N=>.inr (by have:=d1 j N;omega),fun j N=>.inr (by have:=d2 j N;omega)⟩,by exact zB⟩)
 all_goals first|(show aD _ _ _ c.cells;exact zO p1 J)|skip
 all_goals first|(show aG _ _ _ c.words;exact zO p2 K)|skip
theorem JI (c:Ch) (h:Ha) (a b:Option Addr) (p q:Nat) (w:World) (h1:fA w w a c.cells) (z1:a=none→p=0) (h2:fD w w b c.words) (z2:b=none→q=0) (hk:bJ c h 16 22 2=true) (a8:h.pos=18) (hs:((cellAt c h.grow).s == 5)=false) :
  Calls prog 191 #[.agg (aF c (.slice a c.cells p) (.slice b c.words q)),.agg (aB h)] w fun r w'=>dE w w' (bP c h) r:=by
 obtain ⟨Y,Z,_,_⟩:=dC hk
 obtain ⟨n1,n2⟩:=eU Y
 have m1:c.cells.length≤1099511627776:=by omega
 have m2:c.words.length≤1099511627776:=by omega
 have H1:=aA h1
 have H2:=aA h2
 have Z1:=aA z1
 have Z2:=aA z2
 obtain ⟨c1,c2⟩:=nY Z
 obtain ⟨i,a7⟩:∃ i:Nat,h.grow=(i:Int):=⟨h.grow.toNat,by omega⟩
 have hi:i<c.cells.length:=by omega
 have e:bP c h=done c (mh c h):=by simp at hs;simp [bP,hk,a8,l7,hs]
 rw [e]
 obtain ⟨u,bo,rfl,hb,H⟩:∃ O o,a=some ⟨O,o,none⟩∧O<w.heap.size∧w.cell? ⟨O,o+i*3,none⟩=some (.int .i64 (cellAt c h.grow).s):=by
  rcases H1.out with h0|⟨O,o',e,h1,h2⟩
  ·omega
  ·exact ⟨O,o',e,h1,by simpa [iq,cellAt,a7,C3.val] using h2 i 0 hi tO⟩
 generalize (cellAt c h.grow).s=s at *
 have K:=fun W x1=>Fp c h (some ⟨u,bo,none⟩) b p q W x1 c1 tO
 have D:=aA fun v1 v2 W=>bU (c) (mh c h) v1 v2 w W
 generalize done c (mh c h)=x at *
 generalize mh c h=y at *
 replace K:=aA K
 clear h1 h2 z1 z2 e Y Z n1 n2 c1 c2
 go_enter func191,ntmps191
 go_wp2_with fail;refine aK w zB fun u=>?_;refine (dS c h 16 22 2 _ b p q _ (aT H1 u) (aT H2 u)).mono ?_;rintro _ w1 ⟨rfl,E⟩;obtain ⟨a9,T,z⟩:=fH u E (b:=w);(try simp at T);(try simp [go_sem] at z);replace N:=dW z;clear z E u
 rw [hk]
 go_wp2_with fail;refine aK w zB fun u=>?_;refine (dU c _ b p q _ (aT H1 u) Z1.out (aT H2 u) Z2.out m1 m2).mono ?_;rintro _ w2 ⟨⟨v1,v2,rfl,o1,o2⟩,F⟩;obtain ⟨R,U,z⟩:=fH u F (b:=w);(try simp at U);(first|simp [go_sem,N] at z|simp [go_sem] at z|skip);replace N:=dW z;clear z F u
 have d1:=kG o1 (w+1+1+1+1)
 have d2:=kG o2 (w+1+1+1+1)
 have p1:=aH (lo':=w) o1 tO
 have p2:=aH (lo':=w) o2 tO
 obtain ⟨a1,q1,rfl,_⟩:=o1.seg
 obtain ⟨a2,q2,rfl,_⟩:=o2.seg
 obtain ⟨k0,Y,Z,k3⟩:=mF (a:=w) (b:=w2)
 have a0:=(R.cell (p:=⟨u,bo+i*3,none⟩) hb).trans H
 have ae:(0:Int)≤(i:Int):=by omega
 have af:(i:Int)<(c.cells.length:Int):=by omega
 have ac:u<w2.heap.size:=by omega
 have ad:u≠w2.heap.size:=by omega
 go_wp2_with fail;refine aK w zB fun u=>?_;refine aK w2 zB fun bk=>?_;refine (K.out _ (aT H1 u)).mono ?_;rintro _ w4 ⟨rfl,m⟩;have ab:=bT u m;have X:=m.size;(try simp at X);have z:=And.intro (hQ m (b:=w2)) <| And.intro (hQ m (b:=w+1+1+1)) <| And.intro (hQ m (b:=w+1+1)) <| And.intro (hQ m (b:=w+1)) <| hQ m (b:=w);(first|simp [go_sem,N,k0,Y,Z,k3] at z|simp [go_sem] at z|skip);replace N:=ll z;clear z;have A:=bT bk m;clear m u bk
 have s1:=own_below p1 A
 have s2:=own_below p2 A
 go_wp2_with fail;refine aK w zB fun u=>?_;refine (D.out _ _ _ (zO s1 o1) (zO s2 o2)).mono ?_;rintro _ w3 ⟨⟨y1,y2,rfl,L,M,a3,a4⟩,G⟩;obtain ⟨aa,V,z⟩:=fH u G (b:=w);(try simp at V);(first|simp [go_sem,N,k0,Y,Z,k3] at z|simp [go_sem] at z|skip);replace N:=dW z;clear z G u
 obtain ⟨⟨I,J⟩,a5,a6⟩:=mW (w:=w) (w+1+1+1+1) a3 a4 d1 d2;obtain ⟨ya,yp,rfl,_⟩:=L.seg;obtain ⟨yb,yq,rfl,_⟩:=M.seg
 go_wp2
 refine rE results191 rfl (aO x.1 (.slice ya x.1.cells yp) (.slice yb x.1.words yq) tY) rfl (aJ x.2.1 tY) ⟨⟨_,_,rfl,?_,?_,a5,a6⟩,by exact zB⟩
 ·exact zP L L I
 ·exact zP M M J
theorem MB (c:Ch) (h:Ha) (a b:Option Addr) (p q:Nat) (w:World) (h1:fA w w a c.cells) (z1:a=none→p=0) (h2:fD w w b c.words) (z2:b=none→q=0) (T:bJ c h 16 22 2=true) (a7:h.pos=21) :
  Calls prog 191 #[.agg (aF c (.slice a c.cells p) (.slice b c.words q)),.agg (aB h)] w fun r w'=>dE w w' (bP c h) r:=by
 obtain ⟨N,O,_,_⟩:=dC T
 obtain ⟨n1,n2⟩:=eU N
 have m1:c.cells.length≤1099511627776:=by omega
 have m2:c.words.length≤1099511627776:=by omega
 have H1:=aA h1
 have H2:=aA h2
 have Z1:=aA z1
 have Z2:=aA z2
 obtain ⟨c1,c2⟩:=nY O
 obtain ⟨i,a6⟩:∃ i:Nat,h.grow=(i:Int):=⟨h.grow.toNat,by omega⟩
 have hi:i<c.cells.length:=by omega
 have e:bP c h=done (cB c i 2) (dP h):=by simp [bP,T,a7,a6]
 rw [e]
 have ST:=aA fun v1 v2 W=>kQ c i 2 v1 v2 w W
 have D:=fun v1 v2 W=>bU (cB c i 2) (dP h) v1 v2 w W
 simp only [lU,kU] at D
 generalize done (cB c i 2) (dP h)=x at *
 replace D:=aA D
 clear h1 h2 z1 z2 e N O n1 n2 c1 c2
 go_enter func191,ntmps191
 go_wp2_with fail;refine aK w zB fun A=>?_;refine (dS c h 16 22 2 a b p q _ (aT H1 A) (aT H2 A)).mono ?_;rintro _ w1 ⟨rfl,G⟩;obtain ⟨a8,U,z⟩:=fH A G (b:=w);(try simp at U);(try simp [go_sem] at z);replace E:=dW z;clear z G A
 rw [T]
 go_wp2_with fail;refine aK w zB fun A=>?_;refine (dU c a b p q _ (aT H1 A) Z1.out (aT H2 A) Z2.out m1 m2).mono ?_;rintro _ M ⟨⟨v1,v2,rfl,R,o2⟩,H⟩;obtain ⟨a9,V,z⟩:=fH A H (b:=w);(try simp at V);(first|simp [go_sem,E] at z|simp [go_sem] at z|skip);replace E:=dW z;clear z H A
 have d1:=kG R (w+1+1+1+1)
 have d2:=kG o2 (w+1+1+1+1)
 have p1:=aH (lo':=w) R tO
 have p2:=aH (lo':=w) o2 tO
 obtain ⟨a1,q1,rfl,_⟩:=R.seg
 obtain ⟨a2,q2,rfl,_⟩:=o2.seg
 have nw:∀ j,(j<w.heap.size+1+1+1+1∨M.heap.size≤j)→some j≠(Value.slice a1 c.cells q1).ownBlock:=fun j hj e=>by have:=d1 _ e.symm;have:=(R.lt _ e.symm).2;omega
 have ad:=nw (w.heap.size) tO
 have ae:=nw (w+1) tO
 have af:=nw (w+1+1) tO
 have ag:=nw (w+1+1+1) tO
 have ah:=nw M tO
 obtain ⟨k0,N,O,k3⟩:=mF (a:=w) (b:=M)
 go_wp2_with fail
 go_region_held3 (fun w'=>hp w' M=some (.cells (aF c (.slice a1 c.cells q1) (.slice a2 c.words q2)) 31)∧hp w' (w+1)=some (.cells (aB h) 49)∧w'.cell? ⟨w+1,8,none⟩=some (.int .i64 i))
  (first|(simp [*,go_sem]))
  (first|(go_at_call 203;refine (ST.out _ _ _ (zO p1 R) (zO p2 o2) hi).mono ?_;rintro _ w4 ⟨rfl,s1,s2,y⟩;have Y:=y.size;(try (simp at Y));have z:=And.intro (bE y (b:=M) tS (by assumption)) <| And.intro (bE y (b:=w+1+1+1) tS (by assumption)) <| And.intro (bE y (b:=w+1+1) tS (by assumption)) <| And.intro (bE y (b:=w+1) tS (by assumption)) <| bE y (b:=w) tS (by assumption);(first|simp [go_sem,E,k0,N,O,k3] at z|simp [go_sem] at z|skip);replace E:=ll z;clear z;have ab:Below w w w4:=iN zB y tS (fun k T=>by have:=d1 k T;omega);clear y)|((go_at_call 209;refine aK w zB fun A=>?_;refine aK w4 zB fun bk=>?_;refine (jW _ _).mono ?_;rintro _ w5 ⟨rfl,m⟩;have ac:=bT A m;have Z:=m.size;(try simp at Z);have z:=And.intro (hQ m (b:=M)) <| And.intro (hQ m (b:=w+1+1+1)) <| And.intro (hQ m (b:=w+1+1)) <| And.intro (hQ m (b:=w+1)) <| hQ m (b:=w);(first|simp [go_sem,E,k0,N,O,k3] at z|simp [go_sem] at z|skip);replace E:=ll z;clear z;have F:=bT bk m;clear m A bk);have r1:=own_below s1 F;have r2:=own_below s2 F)|((go_at_call 198;refine aK w zB fun A=>?_;refine (D.out _ _ _ (zO r1 R) (zO r2 o2)).mono ?_;rintro _ w3 ⟨⟨y1,y2,rfl,K,L,a0,a3⟩,u⟩;have aa:=bT A u;have X:=u.size;(try simp at X);have z:=And.intro (hQ u (b:=M)) <| And.intro (hQ u (b:=w+1+1+1)) <| And.intro (hQ u (b:=w+1+1)) <| And.intro (hQ u (b:=w+1)) <| hQ u (b:=w);(first|simp [go_sem,E,k0,N,O,k3] at z|simp [go_sem] at z|skip);replace E:=ll z;clear z u A);obtain ⟨⟨I,J⟩,a4,a5⟩:=mW (w:=w) (w+1+1+1+1) a0 a3 d1 d2;obtain ⟨ya,yp,rfl,_⟩:=K.seg;obtain ⟨yb,yq,rfl,_⟩:=L.seg))
 all_goals go_wp2
 all_goals (refine rE results191 rfl (aO x.1 (.slice ya x.1.cells yp) (.slice yb x.1.words yq) tY) rfl (aJ x.2.1 tY) ⟨⟨_,_,rfl,?_,?_,a4,a5⟩,by exact zB⟩)
 all_goals (first|exact zP K K I|skip)
 all_goals (first|exact zP L L J|skip)
theorem MC (c:Ch) (h:Ha) (a b:Option Addr) (p q:Nat) (w:World) (h1:fA w w a c.cells) (z1:a=none→p=0) (h2:fD w w b c.words) (z2:b=none→q=0) (L:bJ c h 16 22 2=true) (a7:h.pos=22) :
  Calls prog 191 #[.agg (aF c (.slice a c.cells p) (.slice b c.words q)),.agg (aB h)] w fun r w'=>dE w w' (bP c h) r:=by
 obtain ⟨V,X,_,_⟩:=dC L
 obtain ⟨n1,n2⟩:=eU V
 have m1:c.cells.length≤1099511627776:=by omega
 have m2:c.words.length≤1099511627776:=by omega
 have H1:=aA h1
 have H2:=aA h2
 have Z1:=aA z1
 have Z2:=aA z2
 obtain ⟨c1,c2⟩:=nY X
 obtain ⟨i,a6⟩:∃ i:Nat,h.grow=(i:Int):=⟨h.grow.toNat,by omega⟩
 have hi:i<c.cells.length:=by omega
 have e:bP c h=done (cB c i 9) ({ h with pos:=16,grow:=(i:Int) }):=by simp [bP,L,a7,a6]
 rw [e]
 have ST:=aA fun Y Z W=>kQ c i 9 Y Z w W
 have D:=fun Y Z W=>bU (cB c i 9) ({ h with pos:=16,grow:=(i:Int) }) Y Z w W
 simp only [lU,kU] at D
 generalize done (cB c i 9) ({ h with pos:=16,grow:=(i:Int) })=x at *
 replace D:=aA D
 clear h1 h2 z1 z2 e V X n1 n2 c1 c2
 go_enter func191,ntmps191
 go_wp2_with fail;refine aK w zB fun y=>?_;refine (dS c h 16 22 2 a b p q _ (aT H1 y) (aT H2 y)).mono ?_;rintro _ w1 ⟨rfl,z⟩;obtain ⟨a8,M,u⟩:=fH y z (b:=w);(try simp at M);(try simp [go_sem] at u);replace J:=dW u;clear u z y
 rw [L]
 go_wp2_with fail;refine aK w zB fun y=>?_;refine (dU c a b p q _ (aT H1 y) Z1.out (aT H2 y) Z2.out m1 m2).mono ?_;rintro _ w2 ⟨⟨Y,Z,rfl,K,U⟩,A⟩;obtain ⟨a9,N,u⟩:=fH y A (b:=w);(try simp at N);(first|simp [go_sem,J] at u|simp [go_sem] at u|skip);replace J:=dW u;clear u A y
 have d1:=kG K (w+1+1+1+1)
 have d2:=kG U (w+1+1+1+1)
 have p1:=aH (lo':=w) K tO
 have p2:=aH (lo':=w) U tO
 obtain ⟨a1,q1,rfl,_⟩:=K.seg
 obtain ⟨a2,q2,rfl,_⟩:=U.seg
 have T:∀ j,(j<w.heap.size+1+1+1+1∨w2.heap.size≤j)→some j≠(Value.slice a1 c.cells q1).ownBlock:=fun j hj e=>by have:=d1 _ e.symm;have:=(K.lt _ e.symm).2;omega
 have ac:=T (w.heap.size) tO
 have ad:=T (w+1) tO
 have ae:=T (w+1+1) tO
 have af:=T (w+1+1+1) tO
 have ag:=T w2 tO
 go_wp2_with fail
 refine (ST.out _ _ _ (zO p1 K) (zO p2 U) hi).mono ?_
 rintro _ w4 ⟨rfl,s1,s2,m⟩
 have R:=m.size;(try (simp at R));have u:=And.intro (bE m (b:=w2) tS (by assumption)) <| And.intro (bE m (b:=w+1+1+1) tS (by assumption)) <| And.intro (bE m (b:=w+1+1) tS (by assumption)) <| And.intro (bE m (b:=w+1) tS (by assumption)) <| bE m (b:=w) tS (by assumption);(first|simp [go_sem,J] at u|simp [go_sem] at u|skip);replace J:=ll u;clear u
 have ab:Below w w w4:=iN zB m tS (fun k L=>by have:=d1 k L;omega)
 clear m
 obtain ⟨k0,V,X,k3⟩:=mF (a:=w) (b:=w2)
 go_wp2_with fail;refine aK w zB fun y=>?_;refine (D.out _ _ _ (zO s1 K) (zO s2 U)).mono ?_;rintro _ w3 ⟨⟨y1,y2,rfl,H,I,a0,a3⟩,E⟩;obtain ⟨aa,O,u⟩:=fH y E (b:=w);(try simp at O);(first|simp [go_sem,J,k0,V,X,k3] at u|simp [go_sem] at u|skip);replace J:=dW u;clear u E y
 obtain ⟨⟨F,G⟩,a4,a5⟩:=mW (w:=w) (w+1+1+1+1) a0 a3 d1 d2;obtain ⟨ya,yp,rfl,_⟩:=H.seg;obtain ⟨yb,yq,rfl,_⟩:=I.seg
 go_wp2
 refine rE results191 rfl (aO x.1 (.slice ya x.1.cells yp) (.slice yb x.1.words yq) tY) rfl (aJ x.2.1 tY) ⟨⟨_,_,rfl,?_,?_,a4,a5⟩,by exact zB⟩
 ·exact zP H H F
 ·exact zP I I G
end
section
open Go.RowKit
attribute [local simp] aP
attribute [local go_sem ↓] aQ bF aY bY aZ bZ aX bB aN aU
def sG (h:Ha):Bool:=h.seen == 1 || (h.seen == 0 && decide (h.cell<(if h.come<h.fin then h.fin else h.come)))
def kR (c:Ch) (h:Ha):St:=if sG h then pE c h else if h.seen == 0 then OU c h else nothing
theorem oN (c:Ch) (h:Ha) (u y:Value) (lo:Nat) (w:World) (h1:aD w lo u c.cells) (z:aG w lo y c.words) (m:0≤h.cell) (q:h.cell<c.cells.length) :
  dG 251 c h u y lo w (pE c h):=by
 cases r:bQ c h.cell h.seen 2 0 with
 | true =>
  rw [show pE c h=(bK c h.cell h.seen 2 0,aV 1 0,true) by simp [pE,r]]
  exact Ap c h u y lo w h1 z m q r
 | false =>
  rw [show pE c h=(c,{ h with pos:=3 },true) by simp [pE,r]]
  exact Dp c h u y lo w h1 z m q r
theorem JJ (c:Ch) (h:Ha) (I J:Value) (lo:Nat) (w:World) (h1:aD w lo I c.cells) (L:aG w lo J c.words) (y:0≤h.cell) (z:h.cell<c.cells.length) (hs:(h.seen == 1)=true) :
  dG 244 c h I J lo w (kR c h):=by
 have e:kR c h=pE c h:=by simp [kR,sG,hs]
 have T:=aA fun W a b=>oN c h I J lo W a b y z
 rw [← e] at T
 generalize kR c h=x at *
 clear e y z
 obtain ⟨O,q1,R,q2,rfl,rfl,M,N,U,V,m1,m2,Y,a4,Z,a5,a0,a6,a3,a7⟩:=Ep h1 L
 clear h1 L
 go_enter func244,ntmps244
 go_wp2_with fail
 refine (T.out _ (zO M M) (zO N N)).mono ?_
 rintro _ w3 ⟨⟨y1,y2,rfl,r,u,E,F⟩,D⟩
 have X:jI (Value.slice O c.cells q1).ownBlock (Value.slice R c.words q2).ownBlock w w3:=gU (dR zB) D
 have A:=D.2.2.2.1;(try (simp at A));have K:=xD D (b:=w);(try simp [go_sem] at K);replace bX:=dW K;clear K
 clear D
 obtain ⟨⟨m,q⟩,G,H⟩:=sO (w:=w) (w+1+1+1+1) E F U V;obtain ⟨ya,yp,rfl,_⟩:=r.seg;obtain ⟨yb,yq,rfl,_⟩:=u.seg
 go_wp2
 refine rE results244 rfl (aO x.1 (.slice ya x.1.cells yp) (.slice yb x.1.words yq) tY) rfl (aJ x.2.1 tY) ⟨⟨_,_,rfl,?_,?_,G,H⟩,by exact zN⟩
 ·exact zP r r m
 ·exact zP u u q
theorem FO (c:Ch) (h:Ha) (J K:Value) (lo:Nat) (w:World) (h1:aD w lo J c.cells) (M:aG w lo K c.words) (y:0≤h.cell) (z:h.cell<c.cells.length) (hn:(h.seen == 1)=false) (hs:(h.seen == 0)=true) (I:h.come<h.fin) (Z:h.cell<h.fin) :
  dG 244 c h J K lo w (kR c h):=by
 have e:kR c h=pE c h:=by simp [kR,sG,hs,I,Z]
 have T:=aA fun W a b=>oN c h J K lo W a b y z
 rw [← e] at T
 generalize kR c h=x at *
 clear e y z
 obtain ⟨R,q1,U,q2,rfl,rfl,N,O,V,X,m1,m2,a0,a6,a3,a7,a4,a8,a5,a9⟩:=Ep h1 M
 clear h1 M
 go_enter func244,ntmps244
 go_wp2_with fail
 refine (T.out _ (zO N N) (zO O O)).mono ?_
 rintro _ w3 ⟨⟨y1,y2,rfl,r,u,E,F⟩,D⟩
 have Y:jI (Value.slice R c.cells q1).ownBlock (Value.slice U c.words q2).ownBlock w w3:=gU (dR zB) D
 have A:=D.2.2.2.1;(try (simp at A));have L:=xD D (b:=w);(try simp [go_sem] at L);replace bX:=dW L;clear L
 clear D
 obtain ⟨⟨m,q⟩,G,H⟩:=sO (w:=w) (w+1+1+1+1) E F V X;obtain ⟨ya,yp,rfl,_⟩:=r.seg;obtain ⟨yb,yq,rfl,_⟩:=u.seg
 go_wp2
 refine rE results244 rfl (aO x.1 (.slice ya x.1.cells yp) (.slice yb x.1.words yq) tY) rfl (aJ x.2.1 tY) ⟨⟨_,_,rfl,?_,?_,G,H⟩,by exact zN⟩
 ·exact zP r r m
 ·exact zP u u q
theorem FP (c:Ch) (h:Ha) (J K:Value) (lo:Nat) (w:World) (h1:aD w lo J c.cells) (M:aG w lo K c.words) (y:0≤h.cell) (z:h.cell<c.cells.length) (hn:(h.seen == 1)=false) (hs:(h.seen == 0)=true) (I:¬ h.come<h.fin) (Z:h.cell<h.come) :
  dG 244 c h J K lo w (kR c h):=by
 have e:kR c h=pE c h:=by simp [kR,sG,hs,I,Z]
 have T:=aA fun W a b=>oN c h J K lo W a b y z
 rw [← e] at T
 generalize kR c h=x at *
 clear e y z
 obtain ⟨R,q1,U,q2,rfl,rfl,N,O,V,X,m1,m2,a0,a6,a3,a7,a4,a8,a5,a9⟩:=Ep h1 M
 clear h1 M
 go_enter func244,ntmps244
 go_wp2_with fail
 refine (T.out _ (zO N N) (zO O O)).mono ?_
 rintro _ w3 ⟨⟨y1,y2,rfl,r,u,E,F⟩,D⟩
 have Y:jI (Value.slice R c.cells q1).ownBlock (Value.slice U c.words q2).ownBlock w w3:=gU (dR zB) D
 have A:=D.2.2.2.1;(try (simp at A));have L:=xD D (b:=w);(try simp [go_sem] at L);replace bX:=dW L;clear L
 clear D
 obtain ⟨⟨m,q⟩,G,H⟩:=sO (w:=w) (w+1+1+1+1) E F V X;obtain ⟨ya,yp,rfl,_⟩:=r.seg;obtain ⟨yb,yq,rfl,_⟩:=u.seg
 go_wp2
 refine rE results244 rfl (aO x.1 (.slice ya x.1.cells yp) (.slice yb x.1.words yq) tY) rfl (aJ x.2.1 tY) ⟨⟨_,_,rfl,?_,?_,G,H⟩,by exact zN⟩
 ·exact zP r r m
 ·exact zP u u q
theorem uH (c:Ch) (h:Ha) (A D:Value) (lo:Nat) (w:World) (h1:aD w lo A c.cells) (R:aG w lo D c.words) (E:0≤h.cell) (F:h.cell<c.cells.length) (hc:aW c=true) (a3:lo≤w.heap.size) (hn:(h.seen == 1)=false) (hs:(h.seen == 0)=true) :
  (∀ (m:h.come<h.fin) (I:¬ h.cell<h.fin),Calls prog 244 #[.agg (aF c A D),.agg (aB h)] w fun r w'=>dJ w w' lo A D (kR c h) r) ∧
  (∀ (m:¬ h.come<h.fin) (I:¬ h.cell<h.come),Calls prog 244 #[.agg (aF c A D),.agg (aB h)] w fun r w'=>dJ w w' lo A D (kR c h) r):=by
 constructor
 case' left =>
  intro m I
  have mA:Hid (0=0):=rfl
 case' right =>
  intro m I
  have mB:Hid (0=0):=rfl
 all_goals
  have e:kR c h=OU c h:=by
   have N:(decide (h.cell<(if h.come<h.fin then h.fin else h.come)))=false:=by simp only [m,if_true,if_false];simpa using I
   simp only [kR,sG,hn,hs,N,Bool.false_or,Bool.and_false,Bool.true_and,if_true]
   rfl
  have T:=aA fun W a b hl=>Ar c h A D lo W a b E F hc hl
  rw [← e] at T
  generalize kR c h=x at *
  clear e E F
  obtain ⟨X,q1,Y,q2,rfl,rfl,U,V,Z,b2,m1,m2,a4,a8,a5,a9,a6,aa,a7,ab⟩:=Ep h1 R
  clear h1 R
  go_enter func244,ntmps244
  go_wp2_with fail
  refine (T.out _ (zO U U) (zO V V) (by simp;omega)).mono ?_
  rintro _ w3 ⟨⟨y1,y2,rfl,y,z,J,K⟩,H⟩
  have a0:jI (Value.slice X c.cells q1).ownBlock (Value.slice Y c.words q2).ownBlock w w3:=gU (dR zB) H
  have G:=H.2.2.2.1;(try (simp at G));have O:=xD H (b:=w);(try simp [go_sem] at O);replace bX:=dW O;clear O
  clear H
  obtain ⟨⟨q,u⟩,L,M⟩:=sO (w:=w) (w+1+1+1+1) J K Z b2;obtain ⟨ya,yp,rfl,_⟩:=y.seg;obtain ⟨yb,yq,rfl,_⟩:=z.seg
  go_wp2
  refine rE results244 rfl (aO x.1 (.slice ya x.1.cells yp) (.slice yb x.1.words yq) tY) rfl (aJ x.2.1 tY) ⟨⟨_,_,rfl,?_,?_,L,M⟩,by exact zN⟩
  ·exact zP y y q
  ·exact zP z z u
theorem FQ (c:Ch) (h:Ha) (m q:Value) (lo:Nat) (w:World) (h1:aD w lo m c.cells) (D:aG w lo q c.words) (u:0≤h.cell) (y:h.cell<c.cells.length) (E:aW c=true) (A:lo≤w.heap.size) (F:(h.seen == 1)=false) (hs:(h.seen == 0)=true) (z:h.come<h.fin) (G:¬ h.cell<h.fin) :
  Calls prog 244 #[.agg (aF c m q),.agg (aB h)] w fun r w'=>dJ w w' lo m q (kR c h) r:=(uH c h m q lo w h1 D u y E A F hs).1 z G
theorem FR (c:Ch) (h:Ha) (m q:Value) (lo:Nat) (w:World) (h1:aD w lo m c.cells) (D:aG w lo q c.words) (u:0≤h.cell) (y:h.cell<c.cells.length) (E:aW c=true) (A:lo≤w.heap.size) (F:(h.seen == 1)=false) (hs:(h.seen == 0)=true) (z:¬ h.come<h.fin) (G:¬ h.cell<h.come) :
  Calls prog 244 #[.agg (aF c m q),.agg (aB h)] w fun r w'=>dJ w w' lo m q (kR c h) r:=(uH c h m q lo w h1 D u y E A F hs).2 z G
theorem JK (c:Ch) (h:Ha) (J K:Value) (lo:Nat) (w:World) (h1:aD w lo J c.cells) (O:aG w lo K c.words) (H:0≤h.cell) (I:h.cell<c.cells.length) (Z:(h.seen == 1)=false) (hs:(h.seen == 0)=false) :
  dG 244 c h J K lo w (kR c h):=by
 have e:kR c h=nothing:=by simp [kR,sG,hs,Z]
 have T:=aA fun W=>gV W lo J K
 rw [← e] at T
 generalize kR c h=x at *
 clear e H I
 obtain ⟨M,R,N,U,rfl,rfl,o1,o2,V,X,m1,m2,a0,a6,a3,a7,a4,a8,a5,a9⟩:=Ep h1 O
 clear h1 O
 go_enter func244,ntmps244
 go_wp2_with fail
 refine (T.out _).mono ?_
 rintro _ w3 ⟨⟨y1,y2,rfl,r,u,D,E⟩,y⟩
 have A:=dR (a:=(Value.slice M c.cells R).ownBlock) (b:=(Value.slice N c.words U).ownBlock) y
 have Y:jI (Value.slice M c.cells R).ownBlock (Value.slice N c.words U).ownBlock w w3:=gU (dR zB) A
 have z:=A.2.2.2.1;(try (simp at z));have L:=xD A (b:=w);(try simp [go_sem] at L);replace bX:=dW L;clear L
 clear A y
 obtain ⟨⟨m,q⟩,F,G⟩:=sO (w:=w) (w+1+1+1+1) D E V X;obtain ⟨ya,yp,rfl,_⟩:=r.seg;obtain ⟨yb,yq,rfl,_⟩:=u.seg
 go_wp2
 refine rE results244 rfl (aO x.1 (.slice ya x.1.cells yp) (.slice yb x.1.words yq) tY) rfl (aJ x.2.1 tY) ⟨⟨_,_,rfl,?_,?_,F,G⟩,by exact zN⟩
 ·exact zP r r m
 ·exact zP u u q
theorem Dv (c:Ch) (h:Ha) (u y:Value) (lo:Nat) (w:World) (h1:aD w lo u c.cells) (z:aG w lo y c.words) (m:0≤h.cell) (q:h.cell<c.cells.length) (F:aW c=true) (D:lo≤w.heap.size) :
  dG 244 c h u y lo w (kR c h):=by
 cases A:(h.seen == 1) with
 | true=>exact JJ c h u y lo w h1 z m q A
 | false =>
  cases hs:(h.seen == 0) with
  | false=>exact JK c h u y lo w h1 z m q A hs
  | true =>
   by_cases r:h.come<h.fin
   ·by_cases E:h.cell<h.fin
    ·exact FO c h u y lo w h1 z m q A hs r E
    ·exact FQ c h u y lo w h1 z m q F D A hs r E
   ·by_cases E:h.cell<h.come
    ·exact FP c h u y lo w h1 z m q A hs r E
    ·exact FR c h u y lo w h1 z m q F D A hs r E
end
section
open Go.RowKit
def Lt (hi:Nat) (a:Option Addr):Prop:=∀ i,(Value.slice a 0 0).ownBlock=some i→i<hi
theorem lD (a:Option Addr) (n p:Nat):(Value.slice a n p).ownBlock=(Value.slice a 0 0).ownBlock:=by rcases a with _|⟨i,_|o,k⟩ <;> rfl
def FT (w:World) (lo hi:Nat) (x:Wo) (a b d e:Option Addr) (p q r s:Nat):Prop:=(New w lo (.slice a x.ch.cells p) x.ch.cells 3 (iq x.ch.cells)∧New w lo (.slice b x.ch.words q) x.ch.words 1 (jT x.ch.words)∧New w lo (.slice d x.hands r) x.hands 14 (dY x.hands)∧New w lo (.slice e x.deals s) x.deals 7 (p8 x.deals))∧(Lt hi a∧Lt hi b∧Lt hi d∧Lt hi e)
def Apart (a b d e:Option Addr):Prop:=(∀ i,(Value.slice a 0 0).ownBlock=some i→(Value.slice b 0 0).ownBlock≠some i∧(Value.slice d 0 0).ownBlock≠some i∧(Value.slice e 0 0).ownBlock≠some i)∧(∀ i,(Value.slice b 0 0).ownBlock=some i→(Value.slice d 0 0).ownBlock≠some i∧(Value.slice e 0 0).ownBlock≠some i)∧(∀ i,(Value.slice d 0 0).ownBlock=some i→(Value.slice e 0 0).ownBlock≠some i)
theorem New.lo' {w:World} {lo n k p:Nat} {a:Option Addr} {f:Nat→Nat→Value} (h:New w lo (.slice a n p) n k f):∀ i,(Value.slice a 0 0).ownBlock=some i→lo≤i∧i<w.heap.size:=fun i m=>h.lt (by rw [lD];exact m)
theorem New.segS {w:World} {lo n k p:Nat} {a:Option Addr} {f:Nat→Nat→Value} (h:New w lo (.slice a n p) n k f):Seg w w a n k f:=by
 obtain ⟨q,m,e,hs⟩:=h.seg
 simp at e
 obtain ⟨rfl,rfl⟩:=e
 exact hs
theorem FT.seg {w w':World} {lo m:Nat} {x:Wo} {a b d e:Option Addr} {p q r s:Nat} (h:FT w lo m x a b d e p q r s):ic w w x a b d e:=⟨h.1.1.segS,h.1.2.1.segS,h.1.2.2.1.segS,h.1.2.2.2.segS⟩
theorem Row.newS {w:World} {g n k lo:Nat} {t:TypeId} {f:Nat→Nat→Value} (h:Row w g t n k f) (m:lo≤g):New w lo (.slice (some ⟨g,0,none⟩) n n) n k f:=.inr ⟨g,_,rfl,m,h.lie⟩
theorem vv {w:World} {lo:Nat} {t:TypeId} {n k:Nat} {v:Value} {u:List Value} {f:Nat→Nat→Value} (h:w.ownsRow lo t k v n u) (H:u.length=n*k) (E:∀ i j,i<n→j<k→u[i*k+j]?=some (f i j)):∃ a p,v=.slice a n p∧New w lo (.slice a n p) n k f:=by
 rcases h.2 with ⟨h1,A⟩|⟨g,cap,q,rfl,r,y,I,J,h6,D⟩
 ·subst A;exact ⟨none,0,h1,.inl ⟨rfl,rfl⟩⟩
 ·refine ⟨_,_,rfl,.inr ⟨g,cap,rfl,r,q,_,y,?_,fun i j F G=>?_⟩⟩
  ·have e:=congrArg List.length D
   rw [List.length_take,H] at e
   simp at e;omega
  ·have:=h.cells (g:=g) rfl (i*k+j) _ (E i j F G)
   have z:(⟨g,0,none⟩:Addr).add (i*k+j)=⟨g,i*k+j,none⟩:=by generalize i*k+j=m;by_cases e:m=0 <;> simp [Addr.add,e]
   rw [z] at this
   simpa [World.cell?,y] using this
theorem lV {w:World} {lo lo':Nat} {t z:TypeId} {k E n y p F:Nat} {a q:Option Addr} {G u:List Value} (h:w.ownsRow lo t k (.slice a n p) n G) (D:w.ownsRow lo' z E (.slice q y F) y u) (r:t≠z):∀ i,(Value.slice a 0 0).ownBlock=some i→(Value.slice q 0 0).ownBlock≠some i:=by
 intro i e A
 rcases dD h D r with m|m
 ·rw [lD,e] at m;cases m
 ·rw [lD,lD q,e,A] at m;exact m rfl
theorem dO.new {w:World} {lo:Nat} {F G H I:Value} {x:Wo} (h:dO w lo F G H I x):∃ a b d e p q r s,F=.slice a x.ch.cells p∧G=.slice b x.ch.words q∧H=.slice d x.hands r∧I=.slice e x.deals s∧FT w lo w x a b d e p q r s∧Apart a b d e:=by
 obtain ⟨h1,u,y,z⟩:=h
 obtain ⟨a,p,rfl,n1⟩:=vv h1 (jO _) (jf _)
 obtain ⟨b,q,rfl,A⟩:=vv (f:=jT x.ch.words) u (by simp [vB]) (fun i j m J=>by (obtain rfl:j=0:=tO);simp [ints,jT,List.getD,m])
 obtain ⟨d,r,rfl,D⟩:=vv y (jA _) (kg _)
 obtain ⟨e,s,rfl,E⟩:=vv z (mK _) (mM _)
 exact ⟨a,b,d,e,p,q,r,s,rfl,rfl,rfl,rfl,⟨⟨n1,A,D,E⟩,fun i m=>(n1.lo' i m).2,fun i m=>(A.lo' i m).2,fun i m=>(D.lo' i m).2,fun i m=>(E.lo' i m).2⟩,fun i m=>⟨lV h1 u (by decide) i m,lV h1 y (by decide) i m,lV h1 z (by decide) i m⟩,fun i m=>⟨lV u y (by decide) i m,lV u z (by decide) i m⟩,fun i m=>lV y z (by decide) i m⟩
end
section
open Go.RowKit
def iA (x:Wo) (v1 v2 v3 v4:Value):Array Value:=#[.int .i64 x.ch.cap,.int .i64 x.ch.sent,.int .i64 x.ch.got,.int .i64 x.ch.fin,v1,v2,v3,v4,.int .i64 x.now]
theorem Qr (x:Wo) (m q r u:Value):(iA x m q r u=#[])=False:=by simp [iA]
theorem Pd (x:Wo) (m q r u:Value):(iA x m q r u).size=9:=rfl
theorem Qs (w:World):(isAgg 35).run prog w=.ok true w:=by simp [isAgg,go_sem]
theorem PU (w:World):(isAgg 68).run prog w=.ok true w:=by simp [isAgg,go_sem]
theorem QT (w:World):(sizeOf 35).run prog w=.ok 9 w:=by simp [go_sem]
theorem Qt (w:World):(sizeOf 68).run prog w=.ok 9 w:=by simp [go_sem]
variable {w:World} {b:Nat}
def Rn (x:Value):Sem Value:=Instr.loadAt 35 x
def Qu (x:Value):Sem Value:=Instr.loadAt 68 x
theorem PV (h:okO 9 (hp w b)=true):(Rn (.pointer (some ⟨b,0,none⟩))).run prog w=.ok (.agg (jP (hp w b))) w:=by
 simp only [Rn,Instr.loadAt,Instr.sureAddr,Sem.run_bind,Sem.run_pure,Result.andThen_ok,nQ Qs QT h]
theorem Pe (h:okO 9 (hp w b)=true):(Qu (.pointer (some ⟨b,0,none⟩))).run prog w=.ok (.agg (jP (hp w b))) w:=by
 simp only [Qu,Instr.loadAt,Instr.sureAddr,Sem.run_bind,Sem.run_pure,Result.andThen_ok,nQ PU Qt h]
def jl (x:Wo) (a b d e:Option Addr) (p1 p2 p3 p4:Nat):Prop:=(a=none→p1=0)∧(b=none→p2=0)∧(d=none→x.hands.length=0∧p3=0)∧(e=none→x.deals.length=0∧p4=0)
def ME (w w':World) (y:Wo) (t:Value) (r:Ending):Prop:=(∃ a b d e p1 p2 p3 p4,r=.returned (.tuple #[.agg (iA y (.slice a y.ch.cells p1) (.slice b y.ch.words p2) (.slice d y.hands p3) (.slice e y.deals p4)),t])∧FT w' w w' y a b d e p1 p2 p3 p4∧Apart a b d e)∧Below w w w'
theorem fE.toW {w w':World} {y:Wo} {t:Value} {r:Ending} (h:fE w w' y t r):ME w w' y t r:=by
 obtain ⟨⟨F,G,H,I,rfl,z⟩,q⟩:=h
 obtain ⟨a,b,d,e,A,D,p3,E,rfl,rfl,rfl,rfl,u,m⟩:=z.new
 exact ⟨⟨a,b,d,e,A,D,p3,E,rfl,u,m⟩,q⟩
theorem wL (W:World) (o:Obj):(W.alloc o).heap.size=W.heap.size+1:=Array.size_push _
attribute [go_sem] PV Pe Qr Pd
end
section
open Go.RowKit
theorem Ic (n cap:Nat) (a:Option Addr) (w:World):Calls prog 9 #[.slice a n cap] w fun r w'=>r=.returned (.bool (decide (4096<(n:Int))))∧w=w':=by
 go_enter func9,ntmps9
 go_wp2
 go_ret
 exact ⟨rfl,rfl⟩
theorem Qv {w W:World} (h:Below w w W) (n:Nat):Below w w (W.drewN n):=⟨h.os,h.tape,h.output,h.size,h.block⟩
theorem oO (l:List Int) (a A:Option Addr) (cap m:Nat) (w:World) (h:fD w w a l) (E:Seg w w A l.length 1 (jT l)) (M:l.length≤maxLen) :
  Calls prog 25 #[.slice a l.length cap,.slice A l.length m] w fun r w'=>r=.returned (.bool true)∧Below w w w':=by
 unfold maxLen at M
 have G:=aA h
 have Qw:=aA E
 clear h E
 go_enter func25,ntmps25
 go_wp2
 go_loopw [5] (fun i wr=>∃ k:Nat,k≤l.length∧i=.int .i64 k∧Below w w wr) (fun i _=>l.length - (intOf i).toNat)
 case atStart=>exact ⟨0,Nat.zero_le _,rfl,Below.refl _ _⟩
 case round =>
  obtain ⟨k,O,rfl,q⟩:=hrel
  by_cases y:k<l.length
  ·obtain I|⟨b,o,rfl,J,F⟩:=G.out
   ·omega
   obtain I|⟨H,N,rfl,z,u⟩:=Qw.out
   ·omega
   have c0:=(q.cell (p:=⟨b,o+k*1+0,none⟩) J).trans (F k 0 y tO)
   have D:=(q.cell (p:=⟨H,N+k*1+0,none⟩) z).trans (u k 0 y tO)
   simp only [jT,Nat.add_zero,Nat.mul_one] at c0 D
   clear F u
   generalize l.getD k 0=x at c0 D
   have K:(0:Int)≤(k:Int):=by omega
   have L:(k:Int)<(l.length:Int):=by omega
   go_wp2_with fail
   (try (go_quiet (fail)))
   go_wp2
   go_roundw
   case rel=>exact ⟨k+1,by omega,by go_num,by first|exact q|exact Qv q _⟩
   case measure=>simp [intOf];omega
  ·have:k=l.length:=by omega
   subst this
   go_wp2
   go_ret
   exact ⟨rfl,q⟩
theorem xK (cs:List C3) (a H:Option Addr) (cap z:Nat) (w:World) (h:fA w w a cs) (M:Seg w w H cs.length 3 (iq cs)) (U:cs.length≤maxLen) :
  Calls prog 125 #[.slice a cs.length cap,.slice H cs.length z] w fun r w'=>r=.returned (.bool true)∧Below w w w':=by
 unfold maxLen at U
 have N:=aA h
 have Qw:=aA M
 clear h M
 go_enter func125,ntmps125
 go_wp2
 go_loopw [5] (fun i wr=>∃ k:Nat,k≤cs.length∧i=.int .i64 k∧Below w w wr) (fun i _=>cs.length - (intOf i).toNat)
 case atStart=>exact ⟨0,Nat.zero_le _,rfl,Below.refl _ _⟩
 case round =>
  obtain ⟨k,X,rfl,q⟩:=hrel
  by_cases m:k<cs.length
  ·obtain O|⟨b,o,rfl,F,D⟩:=N.out
   ·omega
   obtain O|⟨E,G,rfl,y,u⟩:=Qw.out
   ·omega
   have c0:=(q.cell (p:=⟨b,o+k*3+0,none⟩) F).trans (D k 0 m tO)
   have I:=(q.cell (p:=⟨b,o+k*3+1,none⟩) F).trans (D k 1 m tO)
   have c2:=(q.cell (p:=⟨b,o+k*3+2,none⟩) F).trans (D k 2 m tO)
   have J:=(q.cell (p:=⟨E,G+k*3+0,none⟩) y).trans (u k 0 m tO)
   have K:=(q.cell (p:=⟨E,G+k*3+1,none⟩) y).trans (u k 1 m tO)
   have L:=(q.cell (p:=⟨E,G+k*3+2,none⟩) y).trans (u k 2 m tO)
   simp only [iq,C3.val,Nat.add_zero] at c0 I c2 J K L
   clear D u
   generalize A:cs.getD k ⟨0,0,0⟩=c at c0 I c2 J K L
   have V:=aA A
   clear A
   have R:(0:Int)≤(k:Int):=by omega
   have T:(k:Int)<(cs.length:Int):=by omega
   go_wp2_with fail
   (try (go_quiet (fail)))
   go_wp2
   go_roundw
   case rel=>exact ⟨k+1,by omega,by go_num,by first|exact q|exact Qv q _⟩
   case measure=>simp [intOf];omega
  ·have:k=cs.length:=by omega
   subst this
   go_wp2
   go_ret
   exact ⟨rfl,q⟩
theorem Az (c:Ch) (a b K L:Option Addr) (p q Z q':Nat) (w:World) (h1:fA w w a c.cells) (O:fD w w b c.words) (R:Seg w w K c.cells 3 (iq c.cells)) (T:Seg w w L c.words 1 (jT c.words)) (X:c.cells.length≤maxLen) (Y:c.words.length≤maxLen) :
  Calls prog 73 #[.agg #[c.cap,c.sent,c.got,c.fin,.slice a c.cells p,.slice b c.words q],.agg #[c.cap,c.sent,c.got,c.fin,.slice K c.cells Z,.slice L c.words q']] w fun r w'=>r=.returned (.bool true)∧Below w w w':=by
 have H1:=aA h1
 have H2:=aA O
 have H3:=aA R
 have H4:=aA T
 have M1:=aA X
 have M2:=aA Y
 clear h1 O R T X Y
 go_enter func73,ntmps73
 go_wp2_with fail;refine aK w zB fun D=>?_;refine (xK c.cells a K p Z _ ((H1.out.below D).more D.size) ((H3.out.below D).more D.size) M1.out).mono ?_;rintro _ M ⟨rfl,m⟩;have U:Below w w M:=bT D m;have I:=m.size;(try simp at I);have H:=And.intro (fun o=>m.cell (p:=⟨w+1,o,none⟩) tS) <| And.intro (fun o=>m.frozen (p:=⟨w+1,o,none⟩) tS) <| And.intro (fun o=>m.cell (p:=⟨w,o,none⟩) tS) <| fun o=>m.frozen (p:=⟨w,o,none⟩) tS;(try simp [go_sem] at H);(try clear z A);(try clear F G);obtain ⟨z,A,F,G⟩:=H;(try clear y);have y:w+1<M.heap.size:=tO;(try clear E);have E:w<M.heap.size:=tO;clear m D
 go_wp2_with fail;refine aK w zB fun D=>?_;refine (oO c.words b L q q' _ ((H2.out.below D).more D.size) ((H4.out.below D).more D.size) M2.out).mono ?_;rintro _ N ⟨rfl,u⟩;have V:Below w w N:=bT D u;have J:=u.size;(try simp at J);have H:=And.intro (fun o=>u.cell (p:=⟨w+1,o,none⟩) tS) <| And.intro (fun o=>u.frozen (p:=⟨w+1,o,none⟩) tS) <| And.intro (fun o=>u.cell (p:=⟨w,o,none⟩) tS) <| fun o=>u.frozen (p:=⟨w,o,none⟩) tS;(first|simp [go_sem,z,A,F,G,E,y] at H|simp [go_sem,z,F,E,y] at H|simp [go_sem] at H|skip);(try clear z A);(try clear F G);obtain ⟨z,A,F,G⟩:=H;(try clear y);have y:w+1<N.heap.size:=tO;(try clear E);have E:w<N.heap.size:=tO;clear u D
 go_wp2
 go_ret
 exact ⟨rfl,by exact zB⟩
end
section
open Go.RowKit
attribute [local simp] aP
attribute [local go_sem ↓] aQ bF aY bY aZ bZ aX bB aN aU
theorem zF {α:Type} (l:List α):l.take l.length=l:=List.take_length
theorem JL {ds:List De} {k:Nat} {d:De} (q:k<ds.length) (m:ds.getD k De.zero=d) (e:(d.reply == 1)=true):kI (ds.take (k+1))=kI (ds.take k) ++ [d.elem]:=by
 rw [iM ds k De.zero q,m];simp [kI,List.filter_append,e]
theorem MF {ds:List De} {k:Nat} {d:De} (q:k<ds.length) (m:ds.getD k De.zero=d) (e:(d.reply == 1)=false):kI (ds.take (k+1))=kI (ds.take k):=by
 rw [iM ds k De.zero q,m];simp [kI,List.filter_append,e]
theorem zH (ds:List De) (k:Nat):(kI (ds.take k)).length≤k:=by
 have h:=List.length_filter_le (fun d:De=>d.reply == 1) (ds.take k)
 have:=List.length_take_le k ds
 simp only [kI,List.length_map]
 omega
theorem Dw (ds:List De) (d:Option Addr) (s:Nat) (w:World) (R:pG w w d ds) (m4:ds.length≤1099511627776) :
  Calls prog 60 #[.slice d ds.length s] w fun r' w'=>(∃ v,r'=.returned v∧aG w' w v (kI ds))∧Below w w w':=by
 obtain ⟨i0,H,J,K,L⟩:=info_parts kL
 have X:=aA (congrArg kI (zF ds))
 have V:=aA R
 clear R
 go_enter func60,ntmps60
 go_wp2
 go_loopw [3,4] (fun v i wr=>∃ k:Nat,k≤ds.length∧i=.int .i64 k∧aG wr w v (kI (ds.take k))∧w≤wr.heap.size∧Below w w wr) (fun _ i _=>ds.length - (intOf i).toNat)
 case atStart=>exact ⟨0,Nat.zero_le _,rfl,by rw [show kI (ds.take 0)=[] from rfl];exact gJ _ _ _ _ _ (by simp) (by simp),by (try simp),by exact zB⟩
 case round =>
  obtain ⟨k,hk,rfl,m,A,D⟩:=hrel
  by_cases u:k<ds.length
  ·obtain h0|⟨N,O,rfl,T,F⟩:=V.out
   ·omega
   have c5:=(D.cell (p:=⟨N,O+k*7+5,none⟩) T).trans (F k 5 u tO)
   have c0:=(D.cell (p:=⟨N,O+k*7+2,none⟩) T).trans (F k 2 u tO)
   simp only [p8] at c0 c5
   clear F
   generalize z:ds.getD k De.zero=x at c0 c5
   have M:=aA z
   clear z
   simp [gM,Array.getD] at c0 c5
   have a0:=zH ds k
   have Y:(0:Int)≤(k:Int):=by omega
   have Z:(k:Int)<(ds.length:Int):=by omega
   go_wp2_with (at_builtin;refine wpList_append_own _ rfl _ _ 29 rfl w.heap.size 2 i0 _ 1 8 underlying29 H J K L rfl (by decide) _ _ _ rfl (m.alloc _) ⟨wr,0,none⟩ 1 1 [.int .i64 x.elem] rfl rfl (Hw _ _ _) (by simp [Value.oneCell']) ?c3 ?c4 ?c5 ?_)
   case c3=>unfold maxLen;omega
   case c4=>omega
   case c5=>simp;omega
   ·intro v4 U r G _
    have I:=G.size
    simp at I
    have E:Below w w U:=iN zB G (by simp;omega) (fun q hq=>by have:=(m.lt q hq).1;omega)
    have ht:(x.reply == 1)=true:=by assumption
    have y:aG U w v4 (kI (ds.take (k+1))):=by
     rw [JL u M.out ht];exact aG.snoc r
    clear r G m
    go_wp2
    go_roundw
    case rel=>exact ⟨k+1,by omega,by go_num,y,by omega,E⟩
    case measure=>simp [intOf];omega
   ·go_roundw
    case rel=>exact ⟨k+1,by omega,by go_num,by rw [MF u M.out ‹_›];exact m,A,D⟩
    case measure=>simp [intOf];omega
  ·have:k=ds.length:=by omega
   subst this
   go_wp2
   go_ret
   exact ⟨⟨_,rfl,X.out ▸ m⟩,D⟩
theorem MG {ds:List De} {k:Nat} {d:De} (q:k<ds.length) (m:ds.getD k De.zero=d) (e:(d.reply == 2)=true):mZ (ds.take (k+1))=mZ (ds.take k) ++ [d.out]:=by
 rw [iM ds k De.zero q,m];simp [mZ,List.filter_append,e]
theorem Pf {ds:List De} {k:Nat} {d:De} (q:k<ds.length) (m:ds.getD k De.zero=d) (e:(d.reply == 2)=false):mZ (ds.take (k+1))=mZ (ds.take k):=by
 rw [iM ds k De.zero q,m];simp [mZ,List.filter_append,e]
theorem Dx (ds:List De) (k:Nat):(mZ (ds.take k)).length≤k:=by
 have h:=List.length_filter_le (fun d:De=>d.reply == 2) (ds.take k)
 have:=List.length_take_le k ds
 simp only [mZ,List.length_map]
 omega
theorem wM (ds:List De) (d:Option Addr) (s:Nat) (w:World) (R:pG w w d ds) (m4:ds.length≤1099511627776) :
  Calls prog 29 #[.slice d ds.length s] w fun r' w'=>(∃ v,r'=.returned v∧aG w' w v (mZ ds))∧Below w w w':=by
 obtain ⟨i0,H,J,K,L⟩:=info_parts kL
 have X:=aA (congrArg mZ (zF ds))
 have V:=aA R
 clear R
 go_enter func29,ntmps29
 go_wp2
 go_loopw [3,4] (fun v i wr=>∃ k:Nat,k≤ds.length∧i=.int .i64 k∧aG wr w v (mZ (ds.take k))∧w≤wr.heap.size∧Below w w wr) (fun _ i _=>ds.length - (intOf i).toNat)
 case atStart=>exact ⟨0,Nat.zero_le _,rfl,by rw [show mZ (ds.take 0)=[] from rfl];exact gJ _ _ _ _ _ (by simp) (by simp),by (try simp),by exact zB⟩
 case round =>
  obtain ⟨k,hk,rfl,m,A,D⟩:=hrel
  by_cases u:k<ds.length
  ·obtain h0|⟨N,O,rfl,T,F⟩:=V.out
   ·omega
   have c5:=(D.cell (p:=⟨N,O+k*7+5,none⟩) T).trans (F k 5 u tO)
   have c0:=(D.cell (p:=⟨N,O+k*7+6,none⟩) T).trans (F k 6 u tO)
   simp only [p8] at c0 c5
   clear F
   generalize z:ds.getD k De.zero=x at c0 c5
   have M:=aA z
   clear z
   simp [gM,Array.getD] at c0 c5
   have a0:=Dx ds k
   have Y:(0:Int)≤(k:Int):=by omega
   have Z:(k:Int)<(ds.length:Int):=by omega
   go_wp2_with (at_builtin;refine wpList_append_own _ rfl _ _ 29 rfl w.heap.size 2 i0 _ 1 8 underlying29 H J K L rfl (by decide) _ _ _ rfl (m.alloc _) ⟨wr,0,none⟩ 1 1 [.int .i64 x.out] rfl rfl (Hw _ _ _) (by simp [Value.oneCell']) ?c3 ?c4 ?c5 ?_)
   case c3=>unfold maxLen;omega
   case c4=>omega
   case c5=>simp;omega
   ·intro v4 U r G _
    have I:=G.size
    simp at I
    have E:Below w w U:=iN zB G (by simp;omega) (fun q hq=>by have:=(m.lt q hq).1;omega)
    have ht:(x.reply == 2)=true:=by assumption
    have y:aG U w v4 (mZ (ds.take (k+1))):=by
     rw [MG u M.out ht];exact aG.snoc r
    clear r G m
    go_wp2
    go_roundw
    case rel=>exact ⟨k+1,by omega,by go_num,y,by omega,E⟩
    case measure=>simp [intOf];omega
   ·go_roundw
    case rel=>exact ⟨k+1,by omega,by go_num,by rw [Pf u M.out ‹_›];exact m,A,D⟩
    case measure=>simp [intOf];omega
  ·have:k=ds.length:=by omega
   subst this
   go_wp2
   go_ret
   exact ⟨⟨_,rfl,X.out ▸ m⟩,D⟩
end
end Go.Proofs.YtffhjmepfojhnaaGreat
