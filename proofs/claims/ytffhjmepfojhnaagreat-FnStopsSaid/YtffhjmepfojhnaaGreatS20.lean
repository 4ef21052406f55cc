/-
  Stopping, of the reference model; lists lie in memory and hold at most 2 ^ 40 elements.
-/
import Derived.Test.YtffhjmepfojhnaaGreatS17
import Derived.Test.YtffhjmepfojhnaaGreatS01
import Derived.Test.YtffhjmepfojhnaaGreatS16
import Derived.Test.YtffhjmepfojhnaaGreatS04
import Derived.BigRegion
import Derived.Deep.DeepCutAuto
import Derived.Deep.RegionHeld3
import Derived.Test.YtffhjmepfojhnaaGreatS15
set_option maxRecDepth 100000
set_option maxHeartbeats 8000000
set_option linter.unusedSimpArgs false
set_option linter.unusedVariables false
namespace Go.Proofs.YtffhjmepfojhnaaGreat
open _root_.Go.Proofs.Tryz
section
open Go.RowKit
attribute [local simp] aP
attribute [local go_sem ↓] aQ aY aZ gK aN
attribute [local go_sem] fF
theorem Dl (x:Wo) (who:Int) (a b d e:Option Addr) (p q r s:Nat) (w:World) (h1:fA w w a x.ch.cells) (I:a=none→p=0) (D:fD w w b x.ch.words) (J:b=none→q=0) (E:pF w w d x.hands) (K:d=none→x.hands.length=0∧r=0) (F:pG w w e x.deals) (L:e=none→x.deals.length=0∧s=0) (m1:x.ch.cells.length≤1099511627776) (m2:x.ch.words.length≤1099511627776) (T:x.hands.length≤1099511627776) (U:x.deals.length≤1099511627776) (H:bC x=false) :
  Calls prog 22 #[kZ x a b d e p q r s,.int .i64 who] w fun r w'=>fE w w' (stopped x who).1 (.bool (stopped x who).2) r:=by
 have A:stopped x who=(Wo.zero,false):=by simp [stopped,H]
 rw [A]
 have M:=aA h1
 have N:=aA D
 have O:=aA E
 have R:=aA F
 have V:=aA I
 have X:=aA J
 have Y:=aA K
 have Z:=aA L
 clear h1 D E F I J K L
 clear A
 go_enter func22,ntmps22
 go_wp2_with fail;refine aK w zB fun u=>?_;refine (fG x a b d e p q r s _ (aT M u) (aT N u) (aT O u) (aT R u) T U).mono ?_;rintro _ w1 ⟨rfl,m⟩;have G:=bT u m;have y:=m.size;(try simp at y);have z:=And.intro (oZ m (b:=w+1)) <| oZ m (b:=w);(try simp [go_sem] at z);replace bX:=z;clear z m u
 rw [H]
 go_wp2
 exact bodyPost_ret (v:=.tuple #[.agg #[Wo.zero.ch.cap,Wo.zero.ch.sent,Wo.zero.ch.got,Wo.zero.ch.fin,.slice none 0 0,.slice none 0 0,.slice none 0 0,.slice none 0 0,Wo.zero.now],.bool false]) (by simp [results,results22,go_sem,Wo.zero,Ch.zero, *]) rfl ⟨⟨_,_,_,_,rfl,jg _ _⟩,by exact zB⟩
theorem Dm (x:Wo) (who:Int) (a b d e:Option Addr) (p q r s:Nat) (w:World) (h1:fA w w a x.ch.cells) (R:a=none→p=0) (I:fD w w b x.ch.words) (T:b=none→q=0) (J:pF w w d x.hands) (U:d=none→x.hands.length=0∧r=0) (K:pG w w e x.deals) (V:e=none→x.deals.length=0∧s=0) (m1:x.ch.cells.length≤1099511627776) (m2:x.ch.words.length≤1099511627776) (O:x.hands.length≤1099511627776) (m4:x.deals.length≤1099511627776) (N:bC x=true) (E:cK x who=false) :
  Calls prog 22 #[kZ x a b d e p q r s,.int .i64 who] w fun r w'=>fE w w' (stopped x who).1 (.bool (stopped x who).2) r:=by
 have H:stopped x who=(Wo.zero,false):=by simp [stopped,N,E]
 rw [H]
 have X:=aA h1
 have Y:=aA I
 have Z:=aA J
 have H4:=aA K
 have Z1:=aA R
 have Z2:=aA T
 have Z3:=aA U
 have Z4:=aA V
 clear h1 I J K R T U V
 clear H
 have F:eH x.hands who=false:=E
 clear E
 go_enter func22,ntmps22
 go_wp2_with fail;refine aK w zB fun y=>?_;refine (fG x a b d e p q r s _ (aT X y) (aT Y y) (aT Z y) (aT H4 y) O m4).mono ?_;rintro _ w1 ⟨rfl,m⟩;have L:=bT y m;have A:=m.size;(try simp at A);have z:=And.intro (oZ m (b:=w+1)) <| oZ m (b:=w);(try simp [go_sem] at z);replace G:=z;clear z m y
 rw [N]
 go_wp2_with fail;refine aK w zB fun y=>?_;refine (jG x.ch x.hands x.now who _ _ _ _ _ _ _ _ _ _ _ O _).mono ?_;rintro _ w2 ⟨rfl,u⟩;have M:=bT y u;have D:=u.size;(try simp at D);have z:=And.intro (oZ u (b:=w+1)) <| oZ u (b:=w);(first|simp [go_sem,G] at z|simp [go_sem] at z|skip);replace G:=z;clear z u y
 rw [F]
 go_wp2
 exact bodyPost_ret (v:=.tuple #[.agg #[Wo.zero.ch.cap,Wo.zero.ch.sent,Wo.zero.ch.got,Wo.zero.ch.fin,.slice none 0 0,.slice none 0 0,.slice none 0 0,.slice none 0 0,Wo.zero.now],.bool false]) (by simp [results,results22,go_sem,Wo.zero,Ch.zero, *]) rfl ⟨⟨_,_,_,_,rfl,jg _ _⟩,by exact zB⟩
theorem Dn (x:Wo) (who:Int) (a b d e:Option Addr) (p q r s:Nat) (w:World) (h1:fA w w a x.ch.cells) (z1:a=none→p=0) (h2:fD w w b x.ch.words) (z2:b=none→q=0) (h3:pF w w d x.hands) (z3:d=none→x.hands.length=0∧r=0) (h4:pG w w e x.deals) (z4:e=none→x.deals.length=0∧s=0) (m1:x.ch.cells.length≤1099511627776) (m2:x.ch.words.length≤1099511627776) (m3:x.hands.length≤1099511627776) (m4:x.deals.length≤1099511627776) (hk:bC x=true) (T:cK x who=true) (M:((aL x who).pos != 23)=true) :
  Calls prog 22 #[kZ x a b d e p q r s,.int .i64 who] w fun r w'=>fE w w' (stopped x who).1 (.bool (stopped x who).2) r:=by
 have H1:=aA h1
 have H2:=aA h2
 have Y:=aA h3
 have H4:=aA h4
 have Z1:=aA z1
 have Z2:=aA z2
 have Z3:=aA z3
 have Z4:=aA z4
 clear h1 h2 h3 h4 z1 z2 z3 z4
 obtain ⟨i,rfl⟩:∃ i:Nat,who=(i:Int):=⟨who.toNat,by simp [cK,eH,dA] at T;omega⟩
 have hi:i<x.hands.length:=by simp [cK,eH,dA] at T;omega
 obtain ⟨D,J,rfl,K,L⟩:∃ b o,d=some ⟨b,o,none⟩∧b<w.heap.size∧Hid (∀ i j,i<x.hands.length→j<14→w.cell? ⟨b,o+i*14+j,none⟩=some (dY x.hands i j)):=by
  rcases Y.out with h0|h0
  ·omega
  ·exact h0
 have a2:∀ W:World,hp W D=hp w D→(jU (.pointer (some ⟨D,J+i*14,none⟩))).run prog W=.ok (.agg (aB (aL x i))) W:=fun W e=>jh _ fun j hj=>by rw [show (aB (aL x i)).getD j (.int .i64 0)=dY x.hands i j by simp [dY,aL],← L.out i j hi hj];exact World.cell?_of_block e
 have a3:(0:Int)≤(i:Int):=by omega
 have a4:(i:Int)<(x.hands.length:Int):=by omega
 have e0:stopped x i=(x,false):=by simp at M;simp [stopped,hk,T,M]
 rw [e0]
 have Z:eH x.hands i=true:=T
 clear e0 T
 go_enter func22,ntmps22
 go_wp2_with fail;refine aK w zB fun z=>?_;refine (fG x a b _ e p q r s _ (aT H1 z) (aT H2 z) (aT Y z) (aT H4 z) m3 m4).mono ?_;rintro _ w1 ⟨rfl,m⟩;have a0:=bT z m;have N:=m.size;(try simp at N);have A:=And.intro (oZ m (b:=w+1)) <| oZ m (b:=w);(try simp [go_sem] at A);replace U:=A;clear A m z
 rw [hk]
 go_wp2_with fail;refine aK w zB fun z=>?_;refine (jG x.ch x.hands x.now i _ _ _ _ _ _ _ _ _ _ _ m3 _).mono ?_;rintro _ V ⟨rfl,u⟩;have a1:=bT z u;have O:=u.size;(try simp at O);have A:=And.intro (oZ u (b:=w+1)) <| oZ u (b:=w);(first|simp [go_sem,U] at A|simp [go_sem] at A|skip);replace U:=A;clear A u z
 rw [Z]
 go_wp2_with fail;refine aK w zB fun z=>?_;refine (iE x a b _ e p q r s _ (aT H1 z) Z1.out (aT H2 z) Z2.out (aT Y z) Z3.out (aT H4 z) Z4.out m1 m2 m3 m4).mono ?_;rintro _ X ⟨⟨v1,v2,v3,v4,rfl,G,H,E,I⟩,y⟩;have F:=bT z y;have R:=y.size;(try simp at R);have A:=And.intro (oZ y (b:=w+1)) <| oZ y (b:=w);(first|simp [go_sem,U] at A|simp [go_sem] at A|skip);replace U:=A;clear A y z
 try simp at G H E I
 have O1:=aA G
 have O2:=aA H
 have O3:=aA E
 have O4:=aA I
 obtain ⟨va,vc,rfl,_⟩:=aD.seg G
 obtain ⟨vb,vd,rfl,_⟩:=aG.seg H
 obtain ⟨vf,vg,rfl,_⟩:=cO.seg E
 obtain ⟨vh,vi,rfl,_⟩:=dV.seg I
 clear G H E I
 have z3:hp X D=hp w D:=F.block D K
 have a5:D<X.heap.size:=by omega
 have ql:D≠X.heap.size:=by omega
 have c0:X.cell? ⟨D,J+i*14,none⟩=some (.int .i64 (aL x i).pos):=(F.cell (p:=⟨D,J+i*14,none⟩) K).trans ((L.out i 0 hi tO).trans (by simp [dY,aL,aB,Array.getD]))
 go_wp2
 have G:=O1.out
 have H:=O2.out
 have J:=O3.out
 have I:=O4.out
 refine bodyPost_ret (v:=.tuple #[.agg #[x.ch.cap,x.ch.sent,x.ch.got,x.ch.fin,.slice va x.ch.cells vc,.slice vb x.ch.words vd,.slice vf x.hands vg,.slice vh x.deals vi,.int .i64 (x.now)],.bool false]) (by simp [results,results22,go_sem, *]) rfl ⟨⟨_,_,_,_,rfl,aH (lo:=V) ?_ tO,aH (lo:=V) ?_ tO,aH (lo:=V) ?_ tO,aH (lo:=V) ?_ tO⟩,by exact zB⟩
 ·exact zO G G
 ·exact zO H H
 ·exact zO J J
 ·exact zO I I
end
section
open Go.RowKit
attribute [local simp] aP
attribute [local go_sem ↓] aQ aY aZ gK aN
attribute [local go_sem] fF
theorem Fx (c:Ch) (v x:Int):(dM c v x).cells=c.cells∧(dM c v x).cap=c.cap∧(dM c v x).sent=c.sent∧(dM c v x).got=c.got∧(dM c v x).fin=c.fin:=by unfold dM;split <;> simp
theorem Fy (x:Wo) (who:Int) (a b d e:Option Addr) (p q r s:Nat) (w:World) (h1:fA w w a x.ch.cells) (z1:a=none→p=0) (h2:fD w w b x.ch.words) (z2:b=none→q=0) (h3:pF w w d x.hands) (z3:d=none→x.hands.length=0∧r=0) (h4:pG w w e x.deals) (z4:e=none→x.deals.length=0∧s=0) (m1:x.ch.cells.length≤1099511627776) (m2:x.ch.words.length≤1099511627776) (m3:x.hands.length≤1099511627776) (m4:x.deals.length≤1099511627776) (hk:bC x=true) (ht:cK x who=true) (a1:((aL x who).pos != 23)=false) :
  Calls prog 22 #[kZ x a b d e p q r s,.int .i64 who] w fun r w'=>fE w w' (stopped x who).1 (.bool (stopped x who).2) r:=by
 have H1:=aA h1
 have H2:=aA h2
 have H3:=aA h3
 have H4:=aA h4
 have Z1:=aA z1
 have Z2:=aA z2
 have Z3:=aA z3
 have Z4:=aA z4
 clear h1 h2 h3 h4 z1 z2 z3 z4
 obtain ⟨i,rfl⟩:∃ i:Nat,who=(i:Int):=⟨who.toNat,by simp [cK,eH,dA] at ht;omega⟩
 have hi:i<x.hands.length:=by simp [cK,eH,dA] at ht;omega
 obtain ⟨H,N,rfl,V,X⟩:∃ b o,d=some ⟨b,o,none⟩∧b<w.heap.size∧Hid (∀ i j,i<x.hands.length→j<14→w.cell? ⟨b,o+i*14+j,none⟩=some (dY x.hands i j)):=by
  rcases H3.out with h0|h0
  ·omega
  ·exact h0
 have ae:∀ W:World,hp W H=hp w H→(jU (.pointer (some ⟨H,N+i*14,none⟩))).run prog W=.ok (.agg (aB (aL x i))) W:=fun W e=>jh _ fun j hj=>by rw [show (aB (aL x i)).getD j (.int .i64 0)=dY x.hands i j by simp [dY,aL],← X.out i j hi hj];exact World.cell?_of_block e
 have af:(0:Int)≤(i:Int):=by omega
 have ag:(i:Int)<(x.hands.length:Int):=by omega
 have e0:stopped x i=({ x with ch:=dM x.ch (aL x i).mine 2 },eY x.ch (aL x i).mine 2):=by simp at a1;simp [stopped,hk,ht,a1]
 rw [e0]
 have a6:eH x.hands i=true:=ht
 clear e0 ht
 have FF:=aA (Fx x.ch (aL x i).mine 2)
 have T:=aA fun a b p q W x1 x2 x3 x4=>vL x.ch (aL x i).mine 2 a b p q W x1 x2 x3 x4 m1 m2
 go_enter func22,ntmps22
 go_wp2_with fail;refine aK w zB fun J=>?_;refine (fG x a b _ e p q r s _ (aT H1 J) (aT H2 J) (aT H3 J) (aT H4 J) m3 m4).mono ?_;rintro _ w1 ⟨rfl,A⟩;have ab:Below w w w1:=bT J A;have a2:=A.size;(try simp at a2);have L:=And.intro (fun o=>A.cell (p:=⟨w+1,o,none⟩) tS) <| And.intro (fun o=>A.frozen (p:=⟨w+1,o,none⟩) tS) <| And.intro (fun o=>A.cell (p:=⟨w,o,none⟩) tS) <| fun o=>A.frozen (p:=⟨w,o,none⟩) tS;(try simp [go_sem] at L);(try clear u y);(try clear G K);obtain ⟨u,y,G,K⟩:=L;(try clear m);have m:w+1<w1.heap.size:=tO;(try clear F);have F:w<w1.heap.size:=tO;clear A J
 rw [hk]
 go_wp2_with fail;refine aK w zB fun J=>?_;refine (jG x.ch x.hands x.now i _ _ _ _ _ _ _ _ _ _ _ m3 _).mono ?_;rintro _ w2 ⟨rfl,D⟩;have ac:Below w w w2:=bT J D;have a3:=D.size;(try simp at a3);have L:=And.intro (fun o=>D.cell (p:=⟨w+1,o,none⟩) tS) <| And.intro (fun o=>D.frozen (p:=⟨w+1,o,none⟩) tS) <| And.intro (fun o=>D.cell (p:=⟨w,o,none⟩) tS) <| fun o=>D.frozen (p:=⟨w,o,none⟩) tS;(first|simp [go_sem,u,y,G,K,F,m] at L|simp [go_sem,u,G,F,m] at L|simp [go_sem] at L|skip);(try clear u y);(try clear G K);obtain ⟨u,y,G,K⟩:=L;(try clear m);have m:w+1<w2.heap.size:=tO;(try clear F);have F:w<w2.heap.size:=tO;clear D J
 rw [a6]
 go_wp2_with fail;refine aK w zB fun J=>?_;refine (iE x a b _ e p q r s _ (aT H1 J) Z1.out (aT H2 J) Z2.out (aT H3 J) Z3.out (aT H4 J) Z4.out m1 m2 m3 m4).mono ?_;rintro _ I ⟨⟨v1,v2,v3,v4,rfl,R,U,O,Z⟩,E⟩;have M:Below w w I:=bT J E;have a4:=E.size;(try simp at a4);have L:=And.intro (fun o=>E.cell (p:=⟨w+1,o,none⟩) tS) <| And.intro (fun o=>E.frozen (p:=⟨w+1,o,none⟩) tS) <| And.intro (fun o=>E.cell (p:=⟨w,o,none⟩) tS) <| fun o=>E.frozen (p:=⟨w,o,none⟩) tS;(first|simp [go_sem,u,y,G,K,F,m] at L|simp [go_sem,u,G,F,m] at L|simp [go_sem] at L|skip);(try clear u y);(try clear G K);obtain ⟨u,y,G,K⟩:=L;(try clear m);have m:w+1<I.heap.size:=tO;(try clear F);have F:w<I.heap.size:=tO;clear E J
 try simp at R U O Z
 have O1:=aA R
 have O2:=aA U
 have O3:=aA O
 have O4:=aA Z
 obtain ⟨va,vc,rfl,_⟩:=aD.seg R
 obtain ⟨vb,vd,rfl,_⟩:=aG.seg U
 obtain ⟨vf,vg,rfl,_⟩:=cO.seg O
 obtain ⟨vh,vi,rfl,_⟩:=dV.seg Z
 clear R U O Z
 have z3:hp I H=hp w H:=M.block H V
 have a7:H<I.heap.size:=by omega
 have ql:H≠I.heap.size:=by omega
 have c0:I.cell? ⟨H,N+i*14,none⟩=some (.int .i64 (aL x i).pos):=(M.cell (p:=⟨H,N+i*14,none⟩) V).trans ((X.out i 0 hi tO).trans (by simp [dY,aL,aB,Array.getD]))
 have c9:I.cell? ⟨H,N+i*14+9,none⟩=some (.int .i64 (aL x i).mine):=(M.cell (p:=⟨H,N+i*14+9,none⟩) V).trans ((X.out i 9 hi tO).trans (by simp [dY,aL,aB,Array.getD]))
 have k0:w<I.heap.size:=by omega
 have k1:w+1<I.heap.size:=by omega
 have ah:H<I.heap.size+1:=by omega
 have dW:H≠I.heap.size+1:=by omega
 go_wp2_with fail
 go_region_held3 (fun w'=>w'.cell? ⟨w,0,none⟩=some (.int .i64 x.ch.cap)∧w'.cell? ⟨w,1,none⟩=some (.int .i64 x.ch.sent)∧w'.cell? ⟨w,2,none⟩=some (.int .i64 x.ch.got)∧w'.cell? ⟨w,3,none⟩=some (.int .i64 x.ch.fin)∧w'.cell? ⟨w,4,none⟩=some (.slice a x.ch.cells p)∧w'.cell? ⟨w,5,none⟩=some (.slice b x.ch.words q)∧w'.cell? ⟨w,6,none⟩=some (.slice (some ⟨H,N,none⟩) x.hands r)∧w'.cell? ⟨H,N+i*14+9,none⟩=some (.int .i64 (aL x i).mine))
  (first|(simp [*,go_sem]))
  (first|(go_at_call 72;refine (T.out a b p q _ ((H1.out.below zB).more tS) Z1.out ((H2.out.below zB).more tS) Z2.out).mono ?_;rintro _ Y ⟨⟨u1,u2,rfl,u3,u4⟩,z⟩;have ad:Below w w Y:=bT zB z;have a0:Below I I Y:=bT zB z;have a5:=z.size;(try simp at a5);have x4:=fun o=>z.cell (p:=⟨w,o,none⟩) (by ((try simp) <;> (try omega)));have y4:=fun o=>z.cell (p:=⟨w+1,o,none⟩) (by ((try simp) <;> (try omega)));have aa:=fun o=>z.frozen (p:=⟨w+1,o,none⟩) (by ((try simp) <;> (try omega)));have v4:=fun o=>z.cell (p:=⟨I,o,none⟩) (by ((try simp) <;> (try omega)));have a9:=fun o=>z.frozen (p:=⟨I,o,none⟩) (by ((try simp) <;> (try omega)));have t4:=fun o=>z.cell (p:=⟨I+1,o,none⟩);have a8:=fun o=>z.frozen (p:=⟨I+1,o,none⟩);have m4:=z.cell (p:=⟨H,N+i*14+9,none⟩) (by ((try simp) <;> (try omega)));(simp [go_sem,G,F,k0] at x4);(simp [go_sem,u,m,k1] at y4);(simp [go_sem,y,m,k1] at aa);(simp [go_sem] at v4);(simp [go_sem] at a9);(simp [go_sem,a7,c9] at m4);(try simp [go_sem] at t4);(try simp [go_sem] at a8);have n0:w<Y.heap.size:=tO;have n1:w+1<Y.heap.size:=tO;have n2:I<Y.heap.size:=tO;have n3:H<Y.heap.size:=tO;have n4:H≠Y.heap.size:=tO;(try simp at u3 u4);have U3:=aA u3;have U4:=aA u4;obtain ⟨ua,uc,rfl,_⟩:=aD.seg u3;obtain ⟨ub,ud,rfl,_⟩:=aG.seg u4;clear u3 u4))
 all_goals go_wp2
 all_goals (have R:=U3.out;have U:=U4.out;have N:=own_below O3.out a0;have Z:=own_below O4.out a0;have p1:=aH (lo':=w) R tO;have p2:=aH (lo':=w) U tO;have p3:=aH (lo':=w) N tO;have p4:=aH (lo':=w) Z tO;have q3:=O3.out;have q4:=O4.out)
 all_goals (obtain ⟨f1,f2,f3,f4,f5⟩:=FF.out;unfold fE dO;simp only [f1,f2,f3,f4,f5])
 all_goals (refine bodyPost_ret (v:=.tuple #[.agg #[x.ch.cap,x.ch.sent,x.ch.got,x.ch.fin,.slice ua x.ch.cells uc,.slice ub (dM x.ch (aL x i).mine 2).words.length ud,.slice vf x.hands vg,.slice vh x.deals vi,x.now],.bool (eY x.ch (aL x i).mine 2)]) (by simp [results,results22,go_sem, *]) rfl ⟨⟨_,_,_,_,rfl,?_,?_,?_,?_⟩,by exact zB⟩)
 all_goals first|((repeat first|with_reducible exact p1|with_reducible refine rQ ?_ _|with_reducible refine qh ?_|((with_reducible first|refine aI ?_ ?_ _|refine dZ ?_ ?_);rotate_left;focus first|(refine own_ne R ?_;(try dsimp only);omega)|(refine dN R ?_;(try dsimp only);omega)));done)|skip
 all_goals first|((repeat first|with_reducible exact p2|with_reducible refine rQ ?_ _|with_reducible refine qh ?_|((with_reducible first|refine aI ?_ ?_ _|refine dZ ?_ ?_);rotate_left;focus first|(refine own_ne U ?_;(try dsimp only);omega)|(refine dN U ?_;(try dsimp only);omega)));done)|skip
 all_goals first|((repeat first|with_reducible exact p3|with_reducible refine rQ ?_ _|with_reducible refine qh ?_|((with_reducible first|refine aI ?_ ?_ _|refine dZ ?_ ?_);rotate_left;focus first|(refine own_ne q3 ?_;(try dsimp only);omega)|(refine dN q3 ?_;(try dsimp only);omega)));done)|skip
 all_goals first|((repeat first|with_reducible exact p4|with_reducible refine rQ ?_ _|with_reducible refine qh ?_|((with_reducible first|refine aI ?_ ?_ _|refine dZ ?_ ?_);rotate_left;focus first|(refine own_ne q4 ?_;(try dsimp only);omega)|(refine dN q4 ?_;(try dsimp only);omega)));done)|skip
end
section
open Go.RowKit
attribute [local simp] aP
attribute [local go_sem ↓] aQ bF aY bY aZ bZ aX bB aN aU
theorem Ao (c:Ch) (h:Ha) (v1 v2:Value) (lo:Nat) (w:World) (h1:aD w lo v1 c.cells) (h2:aG w lo v2 c.words) (al:0≤h.cell) (am:h.cell<c.cells.length) (hk:eB h.code h.elem=true) :
  dG 241 c h v1 v2 lo w (Fq c h):=by
 obtain ⟨X,hX⟩:∃ X,Fq c h=X:=⟨_,rfl⟩
 rw [hX]
 have b1:=kY h1
 have b2:=kY h2
 have T:=aA fun W=>gV W lo v1 v2
 obtain ⟨x,hN⟩:∃ x:St,x=nothing:=⟨_,rfl⟩
 rw [← hN] at T
 obtain ⟨i,a1⟩:∃ i:Nat,h.cell=(i:Int):=⟨h.cell.toNat,by omega⟩
 have hi:i<c.cells.length:=by omega
 have ar:(0:Int)≤(i:Int):=by omega
 have au:(i:Int)<(c.cells.length:Int):=by omega
 have av:=h1.ne h2
 obtain ⟨a2,q2,rfl,_⟩:=h2.seg
 obtain ⟨g,q1,rfl,an,aa,a0,aq⟩:=h1.open1 hi
 have O1:=aA h1
 have O2:=aA h2
 have m1:∀ j,w.heap.size≤j→some j≠(Value.slice (some ⟨g,0,none⟩) c.cells q1).ownBlock:=fun j hj e=>by have:=b1 _ e.symm;omega
 have m2:∀ j,w.heap.size≤j→some j≠(Value.slice a2 c.words q2).ownBlock:=fun j hj e=>by have:=b2 _ e.symm;omega
 have b3:=m1 (w.heap.size) tO
 have b4:=m1 (w+1) tO
 have b5:=m1 (w+1+1) tO
 have b6:=m1 (w+1+1+1) tO
 have b7:=m2 (w.heap.size) tO
 have b8:=m2 (w+1) tO
 have b9:=m2 (w+1+1) tO
 have ba:=m2 (w+1+1+1) tO
 have ay:g<w.heap.size+1:=by omega
 have az:g<w.heap.size+1+1:=by omega
 have b0:g<w.heap.size+1+1+1:=by omega
 have bh:g≠w.heap.size:=by omega
 have bi:g≠w.heap.size+1:=by omega
 have bj:g≠w.heap.size+1+1:=by omega
 have bl:g≠w.heap.size+1+1+1:=by omega
 have bc:w.heap.size≠g:=by omega
 have be:w.heap.size+1≠g:=by omega
 have bf:w.heap.size+1+1≠g:=by omega
 have bg:w.heap.size+1+1+1≠g:=by omega
 have hx:Hid (cellAt c h.cell=c.cells.getD i ⟨0,0,0⟩):=by simp [cellAt,Hid,a1]
 have c0:=a0 0 tO
 have c1:=a0 1 tO
 have c2:=a0 2 tO
 simp only [C3.val,Nat.add_zero] at c0 c1 c2
 have ex:=hx.out
 generalize c.cells.getD i ⟨0,0,0⟩=x0 at *
 obtain ⟨R,e,t⟩:=x0
 simp only at c0 c1 c2
 obtain ⟨k0,a7⟩:∃ k0,anew (cZ h ⟨R,e,t⟩)=k0:=⟨_,rfl⟩
 have AN:=fun W=>pX (cZ h ⟨R,e,t⟩) hk W
 rw [a7] at AN
 have F0:=fun hn:R=0=>(show X=(c,{ cZ h ⟨R,e,t⟩ with pos:=4 },true) by (rw [← hX];simp [Fq,jN ex 0 hn]))
 have F1:=fun hn:R=1=>(show X=(c,{ cZ h ⟨R,e,t⟩ with pos:=6 },true) by (rw [← hX];simp [Fq,jN ex 1 hn]))
 have F4:=fun hn:R=4=>(show X=(c,{ cZ h ⟨R,e,t⟩ with pos:=7 },true) by (rw [← hX];simp [Fq,jN ex 4 hn]))
 have F8:=fun hn:R=8=>(show X=(c,k0,true) by (rw [← hX,← a7];simp [Fq,jN ex 8 hn]))
 have a9:=fun hn:R=10=>(show X=(c,k0,true) by (rw [← hX,← a7];simp [Fq,jN ex 10 hn]))
 have Fn:=fun (n0:¬ R=0) (n1:¬ R=1) (n4:¬ R=4) (n8:¬ R=8) (a6:¬ R=10)=>(show X=x by (rw [← hX,hN];simp [Fq,jN ex R rfl,n0,n1,n4,n8,a6]))
 replace F0:=aA F0
 replace F1:=aA F1
 replace F4:=aA F4
 replace F8:=aA F8
 replace a9:=aA a9
 replace Fn:=aA Fn
 replace AN:=aA AN
 clear a0 hx h1 h2 al am ex hX a7 hN
 have o1:=O1.out
 have o2:=O2.out
 have ag:=aA a1
 clear a1
 go_enter func241,ntmps241
 go_upto_region 1 with fail
 refine iT [[],[],[1],[],[3],[1,2,3,4],[1,2,3,4,5],[0,1,2,3,4,5,6],qB []] [7,8,9,10,11,12,13,14] (fun l s wx=>(Below w w wx)∧(hp wx w=some (.cells (aF c (.slice (some ⟨g,0,none⟩) c.cells q1) (.slice a2 c.words q2)) 31))∧(hp wx (w+1)=some (.cells (cond (l 8) (aB { h with seen:=R,wait:=t }) (aB h)) 49))∧(hp wx (w+1+1)=some (.cells (aF Ch.zero (.slice none 0 0) (.slice none 0 0)) 31))∧(hp wx (w+1+1+1)=some (.cells (aB Ha.zero) 49))∧(l 0=true→s 7=.agg (aB h))∧(l 1=true→s 8=.pointer (some ⟨w,4,none⟩))∧(l 2=true→s 9=.slice (some ⟨g,0,none⟩) c.cells q1)∧(l 3=true→s 10=.pointer (some ⟨w+1,3,none⟩))∧(l 4=true→s 11=.int .i64 i)∧(l 5=true→s 12=.pointer (some ⟨g,i*3,none⟩))∧(l 6=true→s 13=.agg #[.int .i64 R,.int .i64 e,.int .i64 t])∧(l 7=true→s 14=.agg (aB { h with seen:=R,wait:=t }))) (fun s=>⟨by exact zB,by simp [go_sem],by simp [go_sem],by simp [go_sem],by simp [go_sem],nB,nB,nB,nB,nB,nB,nB,nB⟩) ?_ ?_
 refine ⟨?_,?_,?_,?_,?_,?_,?_,?_,?_,trivial⟩;iterate 9 (intro l s wx hl hd hn J K hK;rotate_left)
 ·intro l s w0 a8 J
  have a5:=J.1
  have I:=J.2.1
  have z:=J.2.2.1
  have r:=J.2.2.2.1
  have m:=J.2.2.2.2.1
  rw [a8 8 rfl] at z
  dsimp only [cond] at z
  clear J a8
  obtain ⟨Y,V,O⟩:=bO I
  obtain ⟨N,M,F⟩:=bO z
  obtain ⟨H,G,A⟩:=bO r
  obtain ⟨E,D,u⟩:=bO m
  have p1:=own_below o1 a5
  have p2:=own_below o2 a5
  have aw:=a5.size
  have ax:w+1+1+1+1≤w0.heap.size:=u
  by_cases n0:R=0
  ·subst n0
   have eX:=F0.out rfl
   subst eX
   go_wp2_with fail
   go_region_held3 (fun w'=>hp w' w=some (.cells (aF c (.slice (some ⟨g,0,none⟩) c.cells q1) (.slice a2 c.words q2)) 31)∧hp w' (w+1)=some (.cells (aB { h with seen:=0,wait:=t }) 49))
    (first|(simp [*,go_sem]))
    (first|((go_at_call 247;refine aK w zB fun bb=>?_;refine aK w0 zB fun bk=>?_;refine (dL _ _ _).mono ?_;rintro _ w1 ⟨rfl,y⟩;have a3:Below w w w1:=bT bb y;have U:=y.size;(try simp at U);have Z:=q4 y (b:=w);(first|simp [go_sem,m,r,z,I,O,F,A,u] at Z|simp [go_sem] at Z|skip);(try clear m E D u);(try clear r H G A);(try clear z N M F);(try clear I Y V O);obtain ⟨m,r,z,I⟩:=Z;obtain ⟨E,D,u⟩:=bO m;obtain ⟨H,G,A⟩:=bO r;obtain ⟨N,M,F⟩:=bO z;obtain ⟨Y,V,O⟩:=bO I;have L:Below w0 w0 w1:=bT bk y;clear y bb bk);have p1:=own_below p1 L;have p2:=own_below p2 L))
   go_wp2
   refine rE results241 rfl (aO c (.slice (some ⟨g,0,none⟩) c.cells q1) (.slice a2 c.words q2) tZ) rfl (aJ { cZ h ⟨0,e,t⟩ with pos:=4 } (by simp [go_sem, *] <;> first|rfl|simp [cZ,anew,a1])) ⟨⟨_,_,rfl,?_,?_,aM _ _,aM _ _⟩,dR zB⟩
   ·exact zO p1 o1
   ·exact zO p2 o2
  by_cases n1:R=1
  ·subst n1
   have eX:=F1.out rfl
   subst eX
   go_wp2_with fail
   go_region_held3 (fun w'=>hp w' w=some (.cells (aF c (.slice (some ⟨g,0,none⟩) c.cells q1) (.slice a2 c.words q2)) 31)∧hp w' (w+1)=some (.cells (aB { h with seen:=1,wait:=t }) 49))
    (first|(simp [*,go_sem]))
    (first|((go_at_call 247;refine aK w zB fun bb=>?_;refine aK w0 zB fun bk=>?_;refine (dL _ _ _).mono ?_;rintro _ w1 ⟨rfl,y⟩;have a3:Below w w w1:=bT bb y;have U:=y.size;(try simp at U);have Z:=q4 y (b:=w);(first|simp [go_sem,m,r,z,I,O,F,A,u] at Z|simp [go_sem] at Z|skip);(try clear m E D u);(try clear r H G A);(try clear z N M F);(try clear I Y V O);obtain ⟨m,r,z,I⟩:=Z;obtain ⟨E,D,u⟩:=bO m;obtain ⟨H,G,A⟩:=bO r;obtain ⟨N,M,F⟩:=bO z;obtain ⟨Y,V,O⟩:=bO I;have L:Below w0 w0 w1:=bT bk y;clear y bb bk);have p1:=own_below p1 L;have p2:=own_below p2 L))
   go_wp2
   refine rE results241 rfl (aO c (.slice (some ⟨g,0,none⟩) c.cells q1) (.slice a2 c.words q2) tZ) rfl (aJ { cZ h ⟨1,e,t⟩ with pos:=6 } (by simp [go_sem, *] <;> first|rfl|simp [cZ,anew,a1])) ⟨⟨_,_,rfl,?_,?_,aM _ _,aM _ _⟩,dR zB⟩
   ·exact zO p1 o1
   ·exact zO p2 o2
  by_cases n4:R=4
  ·subst n4
   have eX:=F4.out rfl
   subst eX
   go_wp2_with fail
   go_region_held3 (fun w'=>hp w' w=some (.cells (aF c (.slice (some ⟨g,0,none⟩) c.cells q1) (.slice a2 c.words q2)) 31)∧hp w' (w+1)=some (.cells (aB { h with seen:=4,wait:=t }) 49))
    (first|(simp [*,go_sem]))
    (first|((go_at_call 247;refine aK w zB fun bb=>?_;refine aK w0 zB fun bk=>?_;refine (dL _ _ _).mono ?_;rintro _ w1 ⟨rfl,y⟩;have a3:Below w w w1:=bT bb y;have U:=y.size;(try simp at U);have Z:=q4 y (b:=w);(first|simp [go_sem,m,r,z,I,O,F,A,u] at Z|simp [go_sem] at Z|skip);(try clear m E D u);(try clear r H G A);(try clear z N M F);(try clear I Y V O);obtain ⟨m,r,z,I⟩:=Z;obtain ⟨E,D,u⟩:=bO m;obtain ⟨H,G,A⟩:=bO r;obtain ⟨N,M,F⟩:=bO z;obtain ⟨Y,V,O⟩:=bO I;have L:Below w0 w0 w1:=bT bk y;clear y bb bk);have p1:=own_below p1 L;have p2:=own_below p2 L))
   go_wp2
   refine rE results241 rfl (aO c (.slice (some ⟨g,0,none⟩) c.cells q1) (.slice a2 c.words q2) tZ) rfl (aJ { cZ h ⟨4,e,t⟩ with pos:=7 } (by simp [go_sem, *] <;> first|rfl|simp [cZ,anew,a1])) ⟨⟨_,_,rfl,?_,?_,aM _ _,aM _ _⟩,dR zB⟩
   ·exact zO p1 o1
   ·exact zO p2 o2
  by_cases n8:R=8
  ·subst n8
   have eX:=F8.out rfl
   subst eX
   go_wp2_with fail
   go_region_held3 (fun w'=>hp w' w=some (.cells (aF c (.slice (some ⟨g,0,none⟩) c.cells q1) (.slice a2 c.words q2)) 31)∧hp w' (w+1)=some (.cells (aB { h with seen:=8,wait:=t }) 49))
    (first|(simp [*,go_sem]))
    (first|((go_at_call 250;refine aK w zB fun bb=>?_;refine aK w0 zB fun bk=>?_;refine (AN.out _).mono ?_;rintro _ w1 ⟨rfl,y⟩;have a3:Below w w w1:=bT bb y;have U:=y.size;(try simp at U);have Z:=q4 y (b:=w);(first|simp [go_sem,m,r,z,I,O,F,A,u] at Z|simp [go_sem] at Z|skip);(try clear m E D u);(try clear r H G A);(try clear z N M F);(try clear I Y V O);obtain ⟨m,r,z,I⟩:=Z;obtain ⟨E,D,u⟩:=bO m;obtain ⟨H,G,A⟩:=bO r;obtain ⟨N,M,F⟩:=bO z;obtain ⟨Y,V,O⟩:=bO I;have L:Below w0 w0 w1:=bT bk y;clear y bb bk);have p1:=own_below p1 L;have p2:=own_below p2 L))
   go_wp2
   refine rE results241 rfl (aO c (.slice (some ⟨g,0,none⟩) c.cells q1) (.slice a2 c.words q2) tZ) rfl (aJ k0 (by simp [go_sem, *] <;> first|rfl|simp [cZ,anew,a1])) ⟨⟨_,_,rfl,?_,?_,aM _ _,aM _ _⟩,dR zB⟩
   ·exact zO p1 o1
   ·exact zO p2 o2
  by_cases a6:R=10
  ·subst a6
   have eX:=a9.out rfl
   subst eX
   go_wp2_with fail
   go_region_held3 (fun w'=>hp w' w=some (.cells (aF c (.slice (some ⟨g,0,none⟩) c.cells q1) (.slice a2 c.words q2)) 31)∧hp w' (w+1)=some (.cells (aB { h with seen:=10,wait:=t }) 49))
    (first|(simp [*,go_sem]))
    (first|((go_at_call 250;refine aK w zB fun bb=>?_;refine aK w0 zB fun bk=>?_;refine (AN.out _).mono ?_;rintro _ w1 ⟨rfl,y⟩;have a3:Below w w w1:=bT bb y;have U:=y.size;(try simp at U);have Z:=q4 y (b:=w);(first|simp [go_sem,m,r,z,I,O,F,A,u] at Z|simp [go_sem] at Z|skip);(try clear m E D u);(try clear r H G A);(try clear z N M F);(try clear I Y V O);obtain ⟨m,r,z,I⟩:=Z;obtain ⟨E,D,u⟩:=bO m;obtain ⟨H,G,A⟩:=bO r;obtain ⟨N,M,F⟩:=bO z;obtain ⟨Y,V,O⟩:=bO I;have L:Below w0 w0 w1:=bT bk y;clear y bb bk);have p1:=own_below p1 L;have p2:=own_below p2 L))
   go_wp2
   refine rE results241 rfl (aO c (.slice (some ⟨g,0,none⟩) c.cells q1) (.slice a2 c.words q2) tZ) rfl (aJ k0 (by simp [go_sem, *] <;> first|rfl|simp [cZ,anew,a1])) ⟨⟨_,_,rfl,?_,?_,aM _ _,aM _ _⟩,dR zB⟩
   ·exact zO p1 o1
   ·exact zO p2 o2
  have eX:=Fn.out n0 n1 n4 n8 a6
  have e0:(R == 0)=false:=by simpa using n0
  have e1:(R == 1)=false:=by simpa using n1
  have e4:(R == 4)=false:=by simpa using n4
  have e8:(R == 8)=false:=by simpa using n8
  have ao:(R == 10)=false:=by simpa using a6
  obtain rfl:x=X:=eX.symm
  go_wp2_with fail
  refine (T.out _).mono ?_
  rintro _ w3 ⟨⟨y1,y2,rfl,ad,ae,ah,ai⟩,a4⟩
  have ap:jI (Value.slice (some ⟨g,0,none⟩) c.cells q1).ownBlock (Value.slice a2 c.words q2).ownBlock w w3:=gU (dR zB) (dR a4)
  have af:=a4.size;(try simp at af);have Z:=q4 a4 (b:=w);(first|simp [go_sem,m,r,z,I,O,F,A,u] at Z|simp [go_sem] at Z|skip);(try clear m E D u);(try clear r H G A);(try clear z N M F);(try clear I Y V O);obtain ⟨m,r,z,I⟩:=Z;obtain ⟨E,D,u⟩:=bO m;obtain ⟨H,G,A⟩:=bO r;obtain ⟨N,M,F⟩:=bO z;obtain ⟨Y,V,O⟩:=bO I;clear a4
  obtain ⟨⟨ab,ac⟩,aj,ak⟩:=sO (w:=w) (w+1+1+1+1) ah ai b1 b2;obtain ⟨ya,yp,rfl,_⟩:=ad.seg;obtain ⟨yb,yq,rfl,_⟩:=ae.seg
  go_wp2
  refine rE results241 rfl (aO x.1 (.slice ya x.1.cells yp) (.slice yb x.1.words yq) tY) rfl (aJ x.2.1 tY) ⟨⟨_,_,rfl,?_,?_,aj,ak⟩,by exact zN⟩
  ·exact zP ad ad ab
  ·exact zP ae ae ac
 ·have hB:=J.out.1
  have zh:=J.out.2.2.1
  rw [show l 8=false from hn 8 rfl] at zh
  dsimp only [cond] at zh
  have zc:=J.out.2.1
  go_simp
  refine hK.out (upd s 7 (.agg (aB h))) _ _ (by simp [aC] <;> rfl) (kC (kA (kX (fun _=>rfl) id)) J.out)
 ·have hB:=J.out.1
  go_simp
  refine hK.out (upd s 8 (.pointer (some ⟨w,4,none⟩))) _ _ (by simp [aC] <;> rfl) (kC (kB (kX (fun _=>rfl) id)) J.out)
 ·have e1:=((jC J.out).2.2.1 (hd 1 rfl))
  have hB:=J.out.1
  have zh:=J.out.2.2.1
  rw [show l 8=false from hn 8 rfl] at zh
  dsimp only [cond] at zh
  have zc:=J.out.2.1
  have q:=(bO zc).1 4
  go_simp
  refine hK.out (upd s 9 (.slice (some ⟨g,0,none⟩) c.cells q1)) _ _ (by simp [aC,e1] <;> rfl) (kC (kB (kA (kX (fun _=>rfl) id))) J.out)
 ·have hB:=J.out.1
  go_simp
  refine hK.out (upd s 10 (.pointer (some ⟨w+1,3,none⟩))) _ _ (by simp [aC] <;> rfl) (kD (kX (fun _=>rfl) id) J.out)
 ·have e3:=((jD J.out).1 (hd 3 rfl))
  have hB:=J.out.1
  have zh:=J.out.2.2.1
  rw [show l 8=false from hn 8 rfl] at zh
  dsimp only [cond] at zh
  have zc:=J.out.2.1
  have q:wx.cell? ⟨w+1,3,none⟩=some (.int .i64 i):=by rw [← ag.out];exact (bO zh).1 3
  go_simp
  refine hK.out (upd s 11 (.int .i64 i)) _ _ (by simp [aC,e3] <;> rfl) (kD (kA (kX (fun _=>rfl) id)) J.out)
 ·have e2:=((jC J.out).2.2.2.1 (hd 2 rfl))
  have e4:=((jD J.out).2.1 (hd 4 rfl))
  have hB:=J.out.1
  go_simp
  refine hK.out (upd s 12 (.pointer (some ⟨g,i*3,none⟩))) _ _ (by simp [aC,e2,e4] <;> rfl) (kD (kB (kX (fun _=>rfl) id)) J.out)
 ·have e5:=((jD J.out).2.2.1 (hd 5 rfl))
  have hB:=J.out.1
  have y0:=(hB.cell (p:=⟨g,i*3,none⟩) aa).trans c0
  have y1:=(hB.cell (p:=⟨g,i*3+1,none⟩) aa).trans c1
  have y2:=(hB.cell (p:=⟨g,i*3+2,none⟩) aa).trans c2
  go_simp
  refine hK.out (upd s 13 (.agg #[.int .i64 R,.int .i64 e,.int .i64 t])) _ _ (by simp [aC,e5] <;> rfl) (kD (kB (kA (kX (fun _=>rfl) id))) J.out)
 ·have e0:=((jC J.out).2.1 (hd 0 rfl))
  have e6:=((jD J.out).2.2.2.1 (hd 6 rfl))
  have hB:=J.out.1
  go_simp
  go_at_call 249
  refine (kN h R e t _).mono ?_
  rintro _ wy ⟨rfl,hE⟩
  refine hK.out (upd s 14 (.agg (aB { h with seen:=R,wait:=t }))) _ _ (by simp [aC,e0,e6] <;> rfl) (kX (bT J.out.1 hE) (kX (eP J.out.2.1 hE) (kX (eP J.out.2.2.1 hE) (kX (eP J.out.2.2.2.1 hE) (kX (eP J.out.2.2.2.2.1 hE) (kC (kB (kA (fun _=>fun _=>rfl)))))))) J.out)
 ·have e7:=((jC (jD J.out)) (hd 7 rfl))
  have hB:=J.out.1
  have zh:=J.out.2.2.1
  rw [hl] at zh
  dsimp only [cond] at zh
  have zc:=J.out.2.1
  go_simp
  refine hK.out (s) _ _ (by simp [aC,e7] <;> rfl) (kX (BK hB tO) (kX ((aR tO).trans zc) (kX (ib zh) (kX ((aR tO).trans J.out.2.2.2.1) (kX ((aR tO).trans J.out.2.2.2.2.1) id)))) J.out)
end
end Go.Proofs.YtffhjmepfojhnaaGreat
