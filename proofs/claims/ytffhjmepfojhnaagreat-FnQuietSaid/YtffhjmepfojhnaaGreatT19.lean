/-
  Stopping, of the reference model; lists lie in memory and hold at most 2 ^ 40 elements.
-/
import Derived.Test.YtffhjmepfojhnaaGreatT16
import Derived.Test.YtffhjmepfojhnaaGreatT13
import Derived.Test.YtffhjmepfojhnaaGreatT02
import Derived.Test.YtffhjmepfojhnaaGreatT07
set_option maxRecDepth 100000
set_option maxHeartbeats 4000000
set_option linter.unusedSimpArgs false
set_option linter.unusedVariables false
namespace Go.Proofs.YtffhjmepfojhnaaGreat
open _root_.Go.Proofs.Tryz
section
open Go.RowKit
attribute [local simp] dz
attribute [local go_sem ↓] dA dO dP jv bK
attribute [local go_sem] iG
theorem GK (x:Wo) (who:Int) (a b d e:Option Addr) (p q r s:Nat) (w:World) (h1:gG w w a x.ch.cells) (z1:a=none→p=0) (h2:gI w w b x.ch.words) (N:b=none→q=0) (h3:qX w w d x.hands) (O:d=none→x.hands.length=0∧r=0) (K:uh w w e x.deals) (R:e=none→x.deals.length=0∧s=0) (m1:x.ch.cells.length≤1099511627776) (m2:x.ch.words.length≤1099511627776) (Y:x.hands.length≤1099511627776) (Z:x.deals.length≤1099511627776) (M:dB x=false) :
  Calls prog 22 #[oI x a b d e p q r s,.int .i64 who] w fun r w'=>ig w w' (stopped x who).1 (.bool (stopped x who).2) r:=by
 have J:stopped x who=(Wo.zero,false):=by simp [stopped,M]
 rw [J];have T:=aA h1;have U:=aA h2;have V:=aA h3;have X:=aA K;have Z1:=aA z1;have Z2:=aA N;have Z3:=aA O;have Z4:=aA R;clear h1 h2 h3 K z1 N O R;clear J;go_enter func22,ntmps22;go_wp2_with fail;refine aK w zB fun G=>?_;refine (eY x a b d e p q r s _ (aT T G) (aT U G) (aT V G) (aT X G) Y Z).mono ?_;rintro _ w1 ⟨rfl,F⟩;have L:=bT G F;have H:=F.size;(try simp at H);have I:=And.intro (sJ F (b:=w+1)) <| sJ F (b:=w);(try simp [go_sem] at I);replace bX:=I;clear I F G
 rw [M];exact U7
theorem GL (x:Wo) (who:Int) (a b d e:Option Addr) (p q r s:Nat) (w:World) (h1:gG w w a x.ch.cells) (z1:a=none→p=0) (h2:gI w w b x.ch.words) (X:b=none→q=0) (h3:qX w w d x.hands) (Y:d=none→x.hands.length=0∧r=0) (O:uh w w e x.deals) (Z:e=none→x.deals.length=0∧s=0) (m1:x.ch.cells.length≤1099511627776) (m2:x.ch.words.length≤1099511627776) (V:x.hands.length≤1099511627776) (m4:x.deals.length≤1099511627776) (U:dB x=true) (ht:bW x who=false) :
  Calls prog 22 #[oI x a b d e p q r s,.int .i64 who] w fun r w'=>ig w w' (stopped x who).1 (.bool (stopped x who).2) r:=by
 have N:stopped x who=(Wo.zero,false):=by simp [stopped,U,ht]
 rw [N];have H1:=aA h1;have H2:=aA h2;have H3:=aA h3;have H4:=aA O;have Z1:=aA z1;have Z2:=aA X;have Z3:=aA Y;have Z4:=aA Z;clear h1 h2 h3 O z1 X Y Z;clear N;have L:gP x.hands who=false:=ht;clear ht;go_enter func22,ntmps22;go_wp2_with fail;refine aK w zB fun H=>?_;refine (eY x a b d e p q r s _ (aT H1 H) (aT H2 H) (aT H3 H) (aT H4 H) V m4).mono ?_;rintro _ w1 ⟨rfl,F⟩;have R:=bT H F;have J:=F.size;(try simp at J);have I:=And.intro (sJ F (b:=w+1)) <| sJ F (b:=w);(try simp [go_sem] at I);replace M:=I;clear I F H
 rw [U];go_wp2_with fail;refine aK w zB fun H=>?_;refine (iq x.ch x.hands x.now who _ _ _ _ _ _ _ _ _ _ _ V _).mono ?_;rintro _ w2 ⟨rfl,G⟩;have T:=bT H G;have K:=G.size;(try simp at K);have I:=And.intro (sJ G (b:=w+1)) <| sJ G (b:=w);(first|simp [go_sem,M] at I|simp [go_sem] at I|skip);replace M:=I;clear I G H
 rw [L];exact U7
theorem GM (x:Wo) (who:Int) (a b d e:Option Addr) (p q r s:Nat) (w:World) (h1:gG w w a x.ch.cells) (z1:a=none→p=0) (h2:gI w w b x.ch.words) (z2:b=none→q=0) (h3:qX w w d x.hands) (z3:d=none→x.hands.length=0∧r=0) (h4:uh w w e x.deals) (z4:e=none→x.deals.length=0∧s=0) (m1:x.ch.cells.length≤1099511627776) (m2:x.ch.words.length≤1099511627776) (m3:x.hands.length≤1099511627776) (m4:x.deals.length≤1099511627776) (hk:dB x=true) (ht:bW x who=true) (X:((aJ x who).pos != 23)=true) :
  Calls prog 22 #[oI x a b d e p q r s,.int .i64 who] w fun r w'=>ig w w' (stopped x who).1 (.bool (stopped x who).2) r:=by
 have H1:=aA h1;have H2:=aA h2;have H3:=aA h3;have H4:=aA h4;have Z1:=aA z1;have Z2:=aA z2;have Z3:=aA z3;have Z4:=aA z4;clear h1 h2 h3 h4 z1 z2 z3 z4;obtain ⟨i,rfl⟩:∃ i:Nat,who=(i:Int):=⟨who.toNat,by simp [bW,gP,dV] at ht;omega⟩;have hi:i<x.hands.length:=by simp [bW,gP,dV] at ht;omega
 obtain ⟨K,T,rfl,U,V⟩:∃ b o,d=some ⟨b,o,none⟩∧b<w.heap.size∧Hid (∀ i j,i<x.hands.length→j<14→w.cell? ⟨b,o+i*14+j,none⟩=some (fO x.hands i j)):=by
  rcases H3.out with h0|h0
  ·omega
  ·exact h0
 have a4:∀ W:World,hp W K=hp w K→(nY (.pointer (some ⟨K,T+i*14,none⟩))).run prog W=.ok (.agg (aB (aJ x i))) W:=fun W e=>lJ _ fun j hj=>by rw [show (aB (aJ x i)).getD j (.int .i64 0)=fO x.hands i j by simp [fO,aJ],← V.out i j hi hj];exact World.cell?_of_block e
 have a5:(0:Int)≤(i:Int):=tO;have a6:(i:Int)<(x.hands.length:Int):=tO;have e0:stopped x i=(x,false):=by simp at X;simp [stopped,hk,ht,X]
 rw [e0];have a1:gP x.hands i=true:=ht;clear e0 ht;go_enter func22,ntmps22;go_wp2_with fail;refine aK w zB fun I=>?_;refine (eY x a b _ e p q r s _ (aT H1 I) (aT H2 I) (aT H3 I) (aT H4 I) m3 m4).mono ?_;rintro _ w1 ⟨rfl,F⟩;have a2:=bT I F;have Y:=F.size;(try simp at Y);have J:=And.intro (sJ F (b:=w+1)) <| sJ F (b:=w);(try simp [go_sem] at J);replace bX:=J;clear J F I
 rw [hk];go_wp2_with fail;refine aK w zB fun I=>?_;refine (iq x.ch x.hands x.now i _ _ _ _ _ _ _ _ _ _ _ m3 _).mono ?_;rintro _ w2 ⟨rfl,G⟩;have a3:=bT I G;have Z:=G.size;(try simp at Z);have J:=And.intro (sJ G (b:=w+1)) <| sJ G (b:=w);(first|simp [go_sem,bX] at J|simp [go_sem] at J|skip);replace bX:=J;clear J G I
 rw [a1];go_wp2_with fail;refine aK w zB fun I=>?_;refine (iR x a b _ e p q r s _ (aT H1 I) Z1.out (aT H2 I) Z2.out (aT H3 I) Z3.out (aT H4 I) Z4.out m1 m2 m3 m4).mono ?_;rintro _ w3 ⟨⟨v1,v2,v3,v4,rfl,N,O,L,R⟩,H⟩;have M:=bT I H;have a0:=H.size;(try simp at a0);have J:=And.intro (sJ H (b:=w+1)) <| sJ H (b:=w);(first|simp [go_sem,bX] at J|simp [go_sem] at J|skip);replace bX:=J;clear J H I
 try simp at N O L R
 have O1:=aA N;have O2:=aA O;have O3:=aA L;have O4:=aA R;obtain ⟨va,vc,rfl,_⟩:=aF.seg N;obtain ⟨vb,vd,rfl,_⟩:=aI.seg O;obtain ⟨vf,vg,rfl,_⟩:=dY.seg L;obtain ⟨vh,vi,rfl,_⟩:=gU.seg R;clear N O L R;have z3:hp w3 K=hp w K:=M.block K U;have a7:K<w3.heap.size:=tO;have pq:K≠w3.heap.size:=tO;have c0:w3.cell? ⟨K,T+i*14,none⟩=some (.int .i64 (aJ x i).pos):=(M.cell (p:=⟨K,T+i*14,none⟩) U).trans ((V.out i 0 hi tO).trans zI)
 go_wp2;have N:=O1.out;have O:=O2.out;have T:=O3.out;have R:=O4.out;refine bodyPost_ret (v:=.tuple #[.agg #[x.ch.cap,x.ch.sent,x.ch.got,x.ch.fin,.slice va x.ch.cells vc,.slice vb x.ch.words vd,.slice vf x.hands vg,.slice vh x.deals vi,.int .i64 (x.now)],.bool false]) (by simp [results,results22,go_sem, *]) rfl ⟨⟨_,_,_,_,rfl,aL (lo:=w2) ?_ tO,aL (lo:=w2) ?_ tO,aL (lo:=w2) ?_ tO,aL (lo:=w2) ?_ tO⟩,zB⟩
 ·exact zO N N
 ·exact zO O O
 ·exact zO T T
 ·exact zO R R
theorem J5 (c:Ch) (v x:Int):(cZ c v x).cells=c.cells∧(cZ c v x).cap=c.cap∧(cZ c v x).sent=c.sent∧(cZ c v x).got=c.got∧(cZ c v x).fin=c.fin:=by unfold cZ;split <;> simp
theorem J6 (x:Wo) (who:Int) (a b d e:Option Addr) (p q r s:Nat) (w:World) (h1:gG w w a x.ch.cells) (z1:a=none→p=0) (h2:gI w w b x.ch.words) (z2:b=none→q=0) (h3:qX w w d x.hands) (z3:d=none→x.hands.length=0∧r=0) (h4:uh w w e x.deals) (z4:e=none→x.deals.length=0∧s=0) (m1:x.ch.cells.length≤1099511627776) (m2:x.ch.words.length≤1099511627776) (m3:x.hands.length≤1099511627776) (m4:x.deals.length≤1099511627776) (hk:dB x=true) (ht:bW x who=true) (a4:((aJ x who).pos != 23)=false) :
  Calls prog 22 #[oI x a b d e p q r s,.int .i64 who] w fun r w'=>ig w w' (stopped x who).1 (.bool (stopped x who).2) r:=by
 have H1:=aA h1;have H2:=aA h2;have H3:=aA h3;have H4:=aA h4;have Z1:=aA z1;have Z2:=aA z2;have Z3:=aA z3;have Z4:=aA z4;clear h1 h2 h3 h4 z1 z2 z3 z4;obtain ⟨i,rfl⟩:∃ i:Nat,who=(i:Int):=⟨who.toNat,by simp [bW,gP,dV] at ht;omega⟩;have hi:i<x.hands.length:=by simp [bW,gP,dV] at ht;omega
 obtain ⟨O,Z,rfl,a1,a2⟩:∃ b o,d=some ⟨b,o,none⟩∧b<w.heap.size∧Hid (∀ i j,i<x.hands.length→j<14→w.cell? ⟨b,o+i*14+j,none⟩=some (fO x.hands i j)):=by
  rcases H3.out with h0|h0
  ·omega
  ·exact h0
 have ah:∀ W:World,hp W O=hp w O→(nY (.pointer (some ⟨O,Z+i*14,none⟩))).run prog W=.ok (.agg (aB (aJ x i))) W:=fun W e=>lJ _ fun j hj=>by rw [show (aB (aJ x i)).getD j (.int .i64 0)=fO x.hands i j by simp [fO,aJ],← a2.out i j hi hj];exact World.cell?_of_block e
 have ai:(0:Int)≤(i:Int):=tO;have aj:(i:Int)<(x.hands.length:Int):=tO;have e0:stopped x i=({ x with ch:=cZ x.ch (aJ x i).mine 2 },eG x.ch (aJ x i).mine 2):=by simp at a4;simp [stopped,hk,ht,a4]
 rw [e0];have a9:gP x.hands i=true:=ht;clear e0 ht;have FF:=aA (J5 x.ch (aJ x i).mine 2);have T:=aA fun a b p q W x1 x2 x3 x4=>Ag x.ch (aJ x i).mine 2 a b p q W x1 x2 x3 x4 m1 m2
 go_enter func22,ntmps22
 go_wp2_with fail;refine aK w zB fun U=>?_;refine (eY x a b _ e p q r s _ (aT H1 U) (aT H2 U) (aT H3 U) (aT H4 U) m3 m4).mono ?_;rintro _ w1 ⟨rfl,J⟩;have ae:Below w w w1:=bT U J;have a5:=J.size;(try simp at a5);have X:=And.intro (fun o=>J.cell (p:=⟨w+1,o,none⟩) tS) <| And.intro (fun o=>J.frozen (p:=⟨w+1,o,none⟩) tS) <| And.intro (fun o=>J.cell (p:=⟨w,o,none⟩) tS) <| fun o=>J.frozen (p:=⟨w,o,none⟩) tS;(try simp [go_sem] at X);(try clear G H);(try clear N V);obtain ⟨G,H,N,V⟩:=X;(try clear F);have F:w+1<w1.heap.size:=tO;(try clear M);have M:w<w1.heap.size:=tO;clear J U
 rw [hk];go_wp2_with fail;refine aK w zB fun U=>?_;refine (iq x.ch x.hands x.now i _ _ _ _ _ _ _ _ _ _ _ m3 _).mono ?_;rintro _ w2 ⟨rfl,K⟩;have af:Below w w w2:=bT U K;have a6:=K.size;(try simp at a6);have X:=And.intro (fun o=>K.cell (p:=⟨w+1,o,none⟩) tS) <| And.intro (fun o=>K.frozen (p:=⟨w+1,o,none⟩) tS) <| And.intro (fun o=>K.cell (p:=⟨w,o,none⟩) tS) <| fun o=>K.frozen (p:=⟨w,o,none⟩) tS;(first|simp [go_sem,G,H,N,V,M,F] at X|simp [go_sem,G,N,M,F] at X|simp [go_sem] at X|skip);(try clear G H);(try clear N V);obtain ⟨G,H,N,V⟩:=X;(try clear F);have F:w+1<w2.heap.size:=tO;(try clear M);have M:w<w2.heap.size:=tO;clear K U
 rw [a9];go_wp2_with fail;refine aK w zB fun U=>?_;refine (iR x a b _ e p q r s _ (aT H1 U) Z1.out (aT H2 U) Z2.out (aT H3 U) Z3.out (aT H4 U) Z4.out m1 m2 m3 m4).mono ?_;rintro _ R ⟨⟨v1,v2,v3,v4,rfl,o1,o2,a0,o4⟩,L⟩;have Y:Below w w R:=bT U L;have a7:=L.size;(try simp at a7);have X:=And.intro (fun o=>L.cell (p:=⟨w+1,o,none⟩) tS) <| And.intro (fun o=>L.frozen (p:=⟨w+1,o,none⟩) tS) <| And.intro (fun o=>L.cell (p:=⟨w,o,none⟩) tS) <| fun o=>L.frozen (p:=⟨w,o,none⟩) tS;(first|simp [go_sem,G,H,N,V,M,F] at X|simp [go_sem,G,N,M,F] at X|simp [go_sem] at X|skip);(try clear G H);(try clear N V);obtain ⟨G,H,N,V⟩:=X;(try clear F);have F:w+1<R.heap.size:=tO;(try clear M);have M:w<R.heap.size:=tO;clear L U
 try simp at o1 o2 a0 o4
 have O1:=aA o1;have O2:=aA o2;have O3:=aA a0;have O4:=aA o4;obtain ⟨va,vc,rfl,_⟩:=aF.seg o1;obtain ⟨vb,vd,rfl,_⟩:=aI.seg o2;obtain ⟨vf,vg,rfl,_⟩:=dY.seg a0;obtain ⟨vh,vi,rfl,_⟩:=gU.seg o4;clear o1 o2 a0 o4;have z3:hp R O=hp w O:=Y.block O a1;have aa:O<R.heap.size:=tO;have pq:O≠R.heap.size:=tO;have c0:R.cell? ⟨O,Z+i*14,none⟩=some (.int .i64 (aJ x i).pos):=(Y.cell (p:=⟨O,Z+i*14,none⟩) a1).trans ((a2.out i 0 hi tO).trans zI)
 have c9:R.cell? ⟨O,Z+i*14+9,none⟩=some (.int .i64 (aJ x i).mine):=(Y.cell (p:=⟨O,Z+i*14+9,none⟩) a1).trans ((a2.out i 9 hi tO).trans zI);have k0:w<R.heap.size:=tO;have k1:w+1<R.heap.size:=tO;have ak:O<R.heap.size+1:=tO;have fP:O≠R.heap.size+1:=tO;go_wp2_with fail
 go_region_held3 (fun w'=>w'.cell? ⟨w,0,none⟩=some (.int .i64 x.ch.cap)∧w'.cell? ⟨w,1,none⟩=some (.int .i64 x.ch.sent)∧w'.cell? ⟨w,2,none⟩=some (.int .i64 x.ch.got)∧w'.cell? ⟨w,3,none⟩=some (.int .i64 x.ch.fin)∧w'.cell? ⟨w,4,none⟩=some (.slice a x.ch.cells p)∧w'.cell? ⟨w,5,none⟩=some (.slice b x.ch.words q)∧w'.cell? ⟨w,6,none⟩=some (.slice (some ⟨O,Z,none⟩) x.hands r)∧w'.cell? ⟨O,Z+i*14+9,none⟩=some (.int .i64 (aJ x i).mine))
  (first|(simp [*,go_sem]))
  (first|(go_at_call 72;refine (T.out a b p q _ ((H1.out.below zB).more tS) Z1.out ((H2.out.below zB).more tS) Z2.out).mono ?_;rintro _ w4 ⟨⟨u1,u2,rfl,u3,u4⟩,I⟩;have ag:Below w w w4:=bT zB I;have a3:Below R R w4:=bT zB I;have a8:=I.size;(try simp at a8);have x4:=fun o=>I.cell (p:=⟨w,o,none⟩) iU;have y4:=fun o=>I.cell (p:=⟨w+1,o,none⟩) iU;have ad:=fun o=>I.frozen (p:=⟨w+1,o,none⟩) iU;have v4:=fun o=>I.cell (p:=⟨R,o,none⟩) iU;have ac:=fun o=>I.frozen (p:=⟨R,o,none⟩) iU;have t4:=fun o=>I.cell (p:=⟨R+1,o,none⟩);have ab:=fun o=>I.frozen (p:=⟨R+1,o,none⟩);have m4:=I.cell (p:=⟨O,Z+i*14+9,none⟩) iU;(simp [go_sem,N,M,k0] at x4);(simp [go_sem,G,F,k1] at y4);(simp [go_sem,H,F,k1] at ad);(simp [go_sem] at v4);(simp [go_sem] at ac);(simp [go_sem,aa,c9] at m4);(try simp [go_sem] at t4);(try simp [go_sem] at ab);have n0:w<w4.heap.size:=tO;have n1:w+1<w4.heap.size:=tO;have n2:R<w4.heap.size:=tO;have n3:O<w4.heap.size:=tO;have n4:O≠w4.heap.size:=tO;(try simp at u3 u4);have U3:=aA u3;have U4:=aA u4;obtain ⟨ua,uc,rfl,_⟩:=aF.seg u3;obtain ⟨ub,ud,rfl,_⟩:=aI.seg u4;clear u3 u4))
 all_goals go_wp2
 all_goals (have o1:=U3.out;have o2:=U4.out;have Z:=own_below O3.out a3;have o4:=own_below O4.out a3;have p1:=aL (lo':=w) o1 tO;have p2:=aL (lo':=w) o2 tO;have p3:=aL (lo':=w) Z tO;have p4:=aL (lo':=w) o4 tO;have q3:=O3.out;have q4:=O4.out)
 all_goals (obtain ⟨f1,f2,f3,f4,f5⟩:=FF.out;unfold ig dG;simp only [f1,f2,f3,f4,f5])
 all_goals (refine bodyPost_ret (v:=.tuple #[.agg #[x.ch.cap,x.ch.sent,x.ch.got,x.ch.fin,.slice ua x.ch.cells uc,.slice ub (cZ x.ch (aJ x i).mine 2).words.length ud,.slice vf x.hands vg,.slice vh x.deals vi,x.now],.bool (eG x.ch (aJ x i).mine 2)]) (by simp [results,results22,go_sem, *]) rfl ⟨⟨_,_,_,_,rfl,?_,?_,?_,?_⟩,zB⟩)
 all_goals first|((repeat first|with_reducible exact p1|with_reducible refine xG ?_ _|with_reducible refine wM ?_|((with_reducible first|refine aV ?_ ?_ _|refine fC ?_ ?_);rotate_left;focus first|(refine own_ne o1 ?_;(try dsimp only);omega)|(refine dN o1 ?_;(try dsimp only);omega)));done)|skip
 all_goals first|((repeat first|with_reducible exact p2|with_reducible refine xG ?_ _|with_reducible refine wM ?_|((with_reducible first|refine aV ?_ ?_ _|refine fC ?_ ?_);rotate_left;focus first|(refine own_ne o2 ?_;(try dsimp only);omega)|(refine dN o2 ?_;(try dsimp only);omega)));done)|skip
 all_goals first|((repeat first|with_reducible exact p3|with_reducible refine xG ?_ _|with_reducible refine wM ?_|((with_reducible first|refine aV ?_ ?_ _|refine fC ?_ ?_);rotate_left;focus first|(refine own_ne q3 ?_;(try dsimp only);omega)|(refine dN q3 ?_;(try dsimp only);omega)));done)|skip
 all_goals first|((repeat first|with_reducible exact p4|with_reducible refine xG ?_ _|with_reducible refine wM ?_|((with_reducible first|refine aV ?_ ?_ _|refine fC ?_ ?_);rotate_left;focus first|(refine own_ne q4 ?_;(try dsimp only);omega)|(refine dN q4 ?_;(try dsimp only);omega)));done)|skip
end
section
structure Qt (x:Lc):Prop where
 s:¬ gJ x.sp∨(x.sp=23∧x.sw=0)
 r:¬ gL x.rp∨(x.rp=23∧x.rw=0)
 g:¬ iM x.gp
theorem Ea {a b:Nat}:Nat.blt a b=true↔a<b:=by simp [Nat.blt];omega
theorem SG {a b:Nat}:Nat.ble a b=true↔a≤b:=by simp
theorem Qt.b {x:Lc} (q:Qt x):((!(!(Nat.beq x.sp 0) && Nat.blt x.sp 30) || (Nat.beq x.sp 23 && Nat.beq x.sw 0)) && ((!(!(Nat.beq x.rp 0) && Nat.blt x.rp 70) || (Nat.beq x.rp 23 && Nat.beq x.rw 0)) && !(Nat.ble 17 x.gp && Nat.blt x.gp 30)))=true:=by
 obtain ⟨a,b,d⟩:=q;have G:(!(!(Nat.beq x.sp 0) && Nat.blt x.sp 30) || (Nat.beq x.sp 23 && Nat.beq x.sw 0))=true:=by
  rcases a with a|a
  ·have:(!(Nat.beq x.sp 0) && Nat.blt x.sp 30)=false:=by
    cases F:(!(Nat.beq x.sp 0) && Nat.blt x.sp 30) with
    | false=>rfl
    | true =>
     simp only [Bool.and_eq_true,Bool.not_eq_true',rq,Ea] at F;exact absurd F a
   rw [this];rfl
  ·rw [a.1,a.2];rfl
 have H:(!(!(Nat.beq x.rp 0) && Nat.blt x.rp 70) || (Nat.beq x.rp 23 && Nat.beq x.rw 0))=true:=by
  rcases b with b|b
  ·have:(!(Nat.beq x.rp 0) && Nat.blt x.rp 70)=false:=by
    cases F:(!(Nat.beq x.rp 0) && Nat.blt x.rp 70) with
    | false=>rfl
    | true =>
     simp only [Bool.and_eq_true,Bool.not_eq_true',rq,Ea] at F;exact absurd F b
   rw [this];rfl
  ·rw [b.1,b.2];rfl
 have I:(!(Nat.ble 17 x.gp && Nat.blt x.gp 30))=true:=by
  have:(Nat.ble 17 x.gp && Nat.blt x.gp 30)=false:=by
   cases F:(Nat.ble 17 x.gp && Nat.blt x.gp 30) with
   | false=>rfl
   | true =>
    simp only [Bool.and_eq_true,SG,Ea] at F;exact absurd F d
  rw [this];rfl
 rw [G,H,I];rfl
theorem Qt.kept {x:Lc} (q:Qt x) (h:In x) (F:x.s=2):x.gp≠0∧x.rp=0∧x.sp≠0:=by
 have:=h.imp (fun x=>((!(!(Nat.beq x.sp 0) && Nat.blt x.sp 30) || (Nat.beq x.sp 23 && Nat.beq x.sw 0)) && ((!(!(Nat.beq x.rp 0) && Nat.blt x.rp 70) || (Nat.beq x.rp 23 && Nat.beq x.rw 0)) && !(Nat.ble 17 x.gp && Nat.blt x.gp 30))) && Nat.beq x.s 2) (fun x=>!(Nat.beq x.gp 0) && (Nat.beq x.rp 0 && (!(Nat.beq x.sp 0)))) bH K5;exact mM
theorem Qt.snd {x:Lc} (q:Qt x) (h:In x) (F:x.sp=23):x.gp=0∧x.rp=0∧x.sp≠0:=by
 have:=h.imp (fun x=>((!(!(Nat.beq x.sp 0) && Nat.blt x.sp 30) || (Nat.beq x.sp 23 && Nat.beq x.sw 0)) && ((!(!(Nat.beq x.rp 0) && Nat.blt x.rp 70) || (Nat.beq x.rp 23 && Nat.beq x.rw 0)) && !(Nat.ble 17 x.gp && Nat.blt x.gp 30))) && Nat.beq x.sp 23) (fun x=>Nat.beq x.gp 0 && (Nat.beq x.rp 0 && (!(Nat.beq x.sp 0)))) bH K5;exact mM
theorem Qt.rcv {x:Lc} (q:Qt x) (h:In x) (F:x.rp=23):x.sp=0∧x.rp≠0:=by
 have:=h.imp (fun x=>((!(!(Nat.beq x.sp 0) && Nat.blt x.sp 30) || (Nat.beq x.sp 23 && Nat.beq x.sw 0)) && ((!(!(Nat.beq x.rp 0) && Nat.blt x.rp 70) || (Nat.beq x.rp 23 && Nat.beq x.rw 0)) && !(Nat.ble 17 x.gp && Nat.blt x.gp 30))) && Nat.beq x.rp 23) (fun x=>Nat.beq x.sp 0 && (!(Nat.beq x.rp 0))) bH K5;exact mM
theorem Qt.nil {x:Lc} (q:Qt x) (h:In x) (F:x.s=0):x.sp=0∧x.rp=0:=by
 have:=h.imp (fun x=>((!(!(Nat.beq x.sp 0) && Nat.blt x.sp 30) || (Nat.beq x.sp 23 && Nat.beq x.sw 0)) && ((!(!(Nat.beq x.rp 0) && Nat.blt x.rp 70) || (Nat.beq x.rp 23 && Nat.beq x.rw 0)) && !(Nat.ble 17 x.gp && Nat.blt x.gp 30))) && Nat.beq x.s 0) (fun x=>Nat.beq x.sp 0 && Nat.beq x.rp 0) bH K5;exact mM
def uE (x:Lc):Nat:=if x.gp=0 then 0 else 1
def uB (x:Lc):Nat:=if x.gp=0 then aR x.rp else 0
def uK (x:Lc):Nat:=if x.s=2 then 1 else 0
def uA (x:Lc):Nat:=if x.gp=0 then 0 else if x.s=0 then 1 else 0
theorem Qt.sum {x:Lc} (q:Qt x) (h:In x):uE x+uB x=aC x+uK x+uA x:=by
 have:=h.imp (fun x=>(!(!(Nat.beq x.sp 0) && Nat.blt x.sp 30) || (Nat.beq x.sp 23 && Nat.beq x.sw 0)) && ((!(!(Nat.beq x.rp 0) && Nat.blt x.rp 70) || (Nat.beq x.rp 23 && Nat.beq x.rw 0)) && !(Nat.ble 17 x.gp && Nat.blt x.gp 30))) (fun x=>Nat.beq (uE x+uB x) (aC x+uK x+uA x)) bH q.b;exact Nat.eq_of_beq_eq_true this
theorem AB (f f':Nat→Nat) (n:Nat):jl (fun m=>f m+f' m) n=jl f n+jl f' n:=by
 induction n with
 | zero=>rfl
 | succ n ih=>simp only [jl,ih];omega
theorem AJ {f:Nat→Nat} {n:Nat} (h:jl f n≠0):∃ m,m<n∧f m≠0:=by
 induction n with
 | zero=>exact absurd rfl h
 | succ n ih =>
  by_cases e:f n=0
  ·simp only [jl,e,Nat.add_zero] at h
   obtain ⟨m,G,F⟩:=ih h;exact ⟨m,by omega,F⟩
  ·exact ⟨n,by omega,e⟩
theorem PU {f:Nat→Nat} {n m:Nat} (F:m<n):f m≤jl f n:=by
 induction n with
 | zero=>omega
 | succ n ih =>
  simp only [jl];by_cases e:m=n
  ·subst e;omega
  ·have:=ih tO;omega
theorem SI (k n:Nat):jl (fun m=>if m<k then 1 else 0) n=if n≤k then n else k:=by
 induction n with
 | zero=>simp [jl]
 | succ n ih =>
  simp only [jl,ih];split <;> split <;> split <;> omega
def Still (c:Ch) (hs:List Ha):Prop:=∀ i,i<hs.length→(aD hs i).pos=0∨((aD hs i).pos=23∧dH c (aD hs i).mine=0)
theorem Q.still {c:Ch} {hs:List Ha} {g:Gh} (q:Q c hs g) (M:Still c hs) (n:Nat) (I:n<40):Qt (g.lc n):=by
 have H:∀ i,i<hs.length→(aD hs i).pos=0∨((aD hs i).pos=23∧dH c (aD hs i).mine=0):=M;refine ⟨?_,?_,?_⟩
 ·by_cases h:gJ (g.lc n).sp
  ·obtain ⟨i,G,e⟩:=q.aS n I h
   right;rcases H i G with p|⟨p,w⟩
   ·rw [mU tO] at e;cases e
   ·have F:=e
    unfold sc at F;split at F
    case isFalse=>cases F
    case isTrue hc =>
     have L:=Option.some.inj F;cases q.hand i G with
     | sW m hm k ce el p z mi =>
      obtain rfl:m=n:=by omega
      refine ⟨z,?_⟩;obtain ⟨J,_⟩:=(q.way m hm).f_sW z;obtain ⟨_,_,K⟩:=(q.word m hm).s J;rw [← mi,w] at K;omega
     | _=>omega
  ·exact .inl h
 ·by_cases h:gL (g.lc n).rp
  ·obtain ⟨i,G,e⟩:=q.aR_ n I h
   right;rcases H i G with p|⟨p,w⟩
   ·rw [iO tO] at e;cases e
   ·have F:=e
    unfold rc at F;split at F
    case isFalse=>cases F
    case isTrue hc =>
     have L:=Option.some.inj F;cases q.hand i G with
     | rW m hm k ce p z mi =>
      obtain rfl:m=n:=by omega
      refine ⟨z,?_⟩;obtain ⟨J,_⟩:=(q.way m hm).f_rW z;obtain ⟨_,_,K⟩:=(q.word m hm).r J;rw [← mi,w] at K;omega
     | _=>omega
  ·exact .inl h
 ·intro h
  obtain ⟨i,G,e⟩:=q.aG_ n I h;rcases H i G with p|⟨p,_⟩
  ·rw [kK tO] at e;cases e
  ·rw [kK tO] at e;cases e
def sS (g:Gh):Nat:=jl (fun n=>uK (g.lc n)) 40
theorem Q.fair {c:Ch} {hs:List Ha} {g:Gh} (q:Q c hs g) (st:Still c hs) (hf:0≤c.fin∧c.fin≤40) (a6:0≤c.cap) :
  (sS g:Int)≤c.cap∧(∀ n,n<40→(g.lc n).sp=23→(sS g:Int)=c.cap)∧(∀ n,n<40→(g.lc n).rp=23→sS g=0∧∀ m,m<40→(g.lc m).sp≠23):=by
 have T:=fun n G=>q.still st n G
 have p0:p16 hs=0:=qM fun i hi=>by
  show pc (aD hs i)=0;have:=st i hi;simp [pc];omega
 have Se:jl (fun n=>uE (g.lc n)) 40=c.fin.toNat:=by
  have U:jl (fun n=>uE (g.lc n)) 40=jl (fun m=>if m<c.fin.toNat then 1 else 0) 40:=mR fun m F=>by
   show uE (g.lc m)=if m<c.fin.toNat then 1 else 0
   have:=q.cE m F;unfold uE;by_cases h:(g.lc m).gp=0
   ·rw [if_pos h,if_neg (fun hl=>(this.2 tO) h)]
   ·rw [if_neg h,if_pos (by have:=this.1 h;omega)]
  rw [U,SI];split <;> omega
 have Sm:jl (fun n=>uE (g.lc n)) 40+jl (fun n=>uB (g.lc n)) 40=qJ g+sS g+jl (fun n=>uA (g.lc n)) 40:=by
  have U:jl (fun n=>uE (g.lc n)+uB (g.lc n)) 40=jl (fun n=>aC (g.lc n)+uK (g.lc n)+uA (g.lc n)) 40:=mR fun m F=>(T m F).sum (q.way m F)
  rw [AB,AB (fun n=>aC (g.lc n)+uK (g.lc n)),AB] at U;exact U
 generalize hB:jl (fun n=>uB (g.lc n)) 40=B at Sm;generalize hA:jl (fun n=>uA (g.lc n)) 40=A at Sm;have K:sS g≠0→∃ n,n<40∧(g.lc n).s=2:=fun h=>by
  obtain ⟨n,G,e⟩:=AJ h;refine ⟨n,G,?_⟩;unfold uK at e;split at e
  ·assumption
  ·exact absurd rfl e
 have L:sS g≠0→B=0:=fun H=>by
  obtain ⟨n,G,e⟩:=K H;obtain ⟨O,V,_⟩:=(T n G).kept (q.way n G) e;have a1:=(q.cE n G).1 O;have a2:¬ (n:Int)<c.got:=fun h=>(q.cR n G).2 h V
  by_cases Y:B=0
  ·exact Y
  ·rw [← hB] at Y
   obtain ⟨m,F,I⟩:=AJ Y;unfold uB at I;split at I
   ·rename_i Z
    have a3:¬ (m:Int)<c.fin:=fun h=>(q.cE m F).2 h Z
    have a4:(g.lc m).rp≠0:=fun h=>by rw [h] at I;exact absurd rfl I
    have a5:=(q.cR m F).1 a4;omega
   ·exact absurd rfl I
 refine ⟨?_,?_,?_⟩
 ·by_cases H:sS g=0
  ·rw [H];omega
  ·have:=L H
   rcases q.cnt with ⟨h1,h2⟩|⟨h1,h2,_⟩
   ·obtain ⟨n,G,e⟩:=K H
    have:=(q.cE n G).1 ((T n G).kept (q.way n G) e).1;clear K L;omega
   ·clear K L
    omega
 ·intro n G J
  obtain ⟨O,V,k3⟩:=(T n G).snd (q.way n G) J;have a1:¬ (n:Int)<c.fin:=fun h=>(q.cE n G).2 h O
  have a2:=(q.cS n G).1 k3;have A0:A=0:=by
   by_cases X:A=0
   ·exact X
   ·rw [← hA] at X
    obtain ⟨m,F,I⟩:=AJ X;unfold uA at I;split at I
    ·exact absurd rfl I
    ·rename_i Z
     split at I
     ·rename_i a0
      obtain ⟨M,_⟩:=(T m F).nil (q.way m F) a0;have R:=(q.cE m F).1 Z;have b3:¬ (m:Int)<c.sent:=fun h=>(q.cS m F).2 h M
      omega
     ·exact absurd rfl I
  rcases q.cnt with ⟨h1,h2⟩|⟨h1,h2,h3⟩
  ·by_cases H:sS g=0
   ·rw [H,h1];rfl
   ·obtain ⟨m,F,e⟩:=K H
    have:=(q.cE m F).1 ((T m F).kept (q.way m F) e).1;omega
  ·have:=h3 (by clear K L;omega)
   by_cases H:sS g=0
   ·clear K L
    omega
   ·have:=L H
    clear K L;omega
 ·intro n G N
  obtain ⟨O,V⟩:=(T n G).rcv (q.way n G) N;have a1:¬ (n:Int)<c.sent:=fun h=>(q.cS n G).2 h O
  have a2:=(q.cR n G).1 V;refine ⟨?_,?_⟩
  ·by_cases H:sS g=0
   ·exact H
   ·obtain ⟨m,F,e⟩:=K H
    obtain ⟨_,M,R⟩:=(T m F).kept (q.way m F) e;have b3:¬ (m:Int)<c.got:=fun h=>(q.cR m F).2 h M
    have b4:=(q.cS m F).1 R;omega
  ·intro m F J
   obtain ⟨_,M,R⟩:=(T m F).snd (q.way m F) J;have b3:¬ (m:Int)<c.got:=fun h=>(q.cR m F).2 h M
   have b4:=(q.cS m F).1 R;omega
end
section
open Go.RowKit
attribute [local simp] dz
attribute [local go_sem ↓] dA fU dO gW dP gY dW fE bK eO
theorem oq (kd who k e:Int) (w:World):Calls prog 131 #[.agg #[.int .i64 kd,.int .i64 who,.int .i64 k,.int .i64 e]] w fun r w'=>r=.returned (.bool (lW kd who k e))∧Below w w w':=by
 go_enter func131,ntmps131
 go_wp2_with (first|(go_at_call 121;refine (iP _ _ _ _).mono ?_;rintro _ _ ⟨rfl,rfl⟩)|(go_at_call 170;refine (nX _ _ _).mono ?_;rintro _ H ⟨rfl,F⟩;have I:Below w w H:=bT zB F;have G:=F.size;(try (simp at G));have:=fun o=>F.cell (p:=⟨w,o,none⟩) fK;have:=fun o=>F.frozen (p:=⟨w,o,none⟩) fK;have:w<H.heap.size:=tO;have:w≤H.heap.size:=tO;have:w≤H.heap.size+1:=tO)|(go_at_call 169;refine (Ae _ _ _).mono ?_;rintro _ H ⟨rfl,F⟩;have I:Below w w H:=bT zB F;have G:=F.size;(try (simp at G));have:=fun o=>F.cell (p:=⟨w,o,none⟩) fK;have:=fun o=>F.frozen (p:=⟨w,o,none⟩) fK;have:w<H.heap.size:=tO;have:w≤H.heap.size:=tO;have:w≤H.heap.size+1:=tO))
 all_goals go_ret
 all_goals exact ⟨bQ (by simp_all [lW]),zB⟩
theorem Iu (b:Bool) (w:World):Calls prog 134 #[.bool b] w fun r w'=>r=.returned (.int .i64 (CL b))∧w=w':=by
 cases b
 all_goals (go_enter func134,ntmps134;go_wp2;go_ret;exact ⟨rfl,rfl⟩)
end
section
def Mine (c:Ch) (hs:List Ha):Prop:=∀ i,i<hs.length→24≤(aD hs i).pos→jR c (aD hs i).mine=true
theorem Q.goP {c:Ch} {hs:List Ha} {g:Gh} {i:Nat} (q:Q c hs g) (K:i<hs.length) (hc:aN c=true) (H:aU (aD hs i)=true) (N:23≤(aD hs i).pos) (I:24≤(aD hs i).pos→jR c (aD hs i).mine=true)
  (L:(aD hs i).pos=23→dH c (aD hs i).mine≠0):(bJ c (aD hs i)).2.2=true:=by
 have C:=iT.1 hc;have B:=(hb_iff.1 H).2;have J:(aD hs i).pos≠0:=tO;have M:(aD hs i).pos≤25:=by
  have:=(hb_iff.1 H).1;simp only [oG,Bool.and_eq_true,dK] at this;omega
 have hok:bC c (aD hs i) 23 25 0=true:=by
  have:dV (aD hs i).pos 23 25=true:=by simp only [dK];omega
  simp [bC,hc,H,this]
 have F:(aD hs i).pos=23→jR c (aD hs i).mine=true→(bJ c (aD hs i)).2.2=true:=by
  intro p m;unfold bJ;rw [hok,m];simp only [p,Int.reduceBEq,Bool.false_eq_true,BEq.rfl,if_true,if_false,Bool.false_and,Bool.not_false,Bool.and_self];unfold j5;rw [if_neg (by simpa using L p)];split
  ·exact dZ hc (iA H J 25 tO)
  ·split
   ·exact dZ hc (lN _ _ tO tO)
   ·exact dZ hc (iA H J 24 tO)
 have G:(aD hs i).pos=25→(bJ c (aD hs i)).2.2=true:=by
  intro p;unfold bJ;rw [hok,I tO];simp only [p,Int.reduceBEq,Bool.false_eq_true,BEq.rfl,if_true,if_false,Bool.false_and,Bool.not_false,Bool.and_self];refine dZ (iT.2 (C.state _ _ ?_)) (lN _ _ tO tO);unfold vE;split <;> omega
 cases q.hand i K with
 | sW n hn k ce el p z m =>
  have w:=(q.word n hn).s ((q.way n hn).f_sW z).1;exact F p (by rw [m];unfold jR;rw [dK];exact ⟨w.1,w.2.1⟩)
 | rW n hn k ce p z m =>
  have w:=(q.word n hn).r ((q.way n hn).f_rW z).1;exact F p (by rw [m];unfold jR;rw [dK];exact ⟨w.1,w.2.1⟩)
 | sm n hn k ce el p z=>exact G p
 | rm n hn k ce p z=>exact G p
 | rF n hn k ce p z m =>
  unfold bJ;rw [hok,I tO];simp only [p,k,Int.reduceBEq,Bool.false_eq_true,BEq.rfl,if_true,if_false,Bool.false_and,Bool.and_false,Bool.not_false,Bool.and_self];exact dZ hc (lN _ _ tO (jm.1 (C.at _)).2.1)
 | _=>omega
theorem Q.go {c:Ch} {hs:List Ha} {g:Gh} {i:Nat} (q:Q c hs g) (K:Mine c hs) (G:i<hs.length) (hc:aN c=true) (F:aU (aD hs i)=true) (M:(aD hs i).pos≠0)
  (h1:(aD hs i).pos=10→(cellAt c (aD hs i).cell).s≠6) (h2:(aD hs i).pos=18→(cellAt c (aD hs i).grow).s≠5) (h3:(aD hs i).pos=23→dH c (aD hs i).mine≠0):(fu c (aD hs i)).2.2=true:=by
 have L:0≤(aD hs i).pos∧(aD hs i).pos≤25:=by
  have:=(hb_iff.1 F).1;simp only [oG,Bool.and_eq_true,dK] at this;exact this.1
 unfold fu;split
 ·rename_i e
  rw [dK] at e;exact q.goS G hc F e.1 e.2
 ·rename_i H
  rw [dK] at H;split
  ·rename_i e
   rw [dK] at e;exact q.goR G hc F e.1 e.2 h1
  ·rename_i I
   rw [dK] at I;split
   ·rename_i e
    rw [dK] at e;exact q.goG G hc F e.1 e.2 h2
   ·rename_i J
    rw [dK] at J;exact q.goP G hc F tO (K i G) h3
theorem HP.gc_pos {g:Gh} {h:Ha} {n:Nat} (H:HP g h) (e:gc h=some n):h.grow=(n:Int)∧((h.pos=18∧(g.lc n).gp=18)∨(17≤h.pos∧h.pos≤22∧h.pos≠18)):=by
 unfold gc at e;split at e
 case isFalse=>cases e
 case isTrue a =>
  obtain ⟨k,F,G⟩:=a;cases H with
  | gF n' m k b hm r p z=>rw [r] at e ⊢;simp at e;subst e;exact ⟨rfl,.inr tO⟩
  | gX n' m k b hm r p z=>rw [r] at e ⊢;simp at e;subst e;exact ⟨rfl,.inl ⟨p,z⟩⟩
  | gU0 n' m k b hm r p z s=>rw [r] at e ⊢;simp at e;subst e;exact ⟨rfl,.inr tO⟩
  | gU3 n' m k b hm r p z s w=>rw [r] at e ⊢;simp at e;subst e;exact ⟨rfl,.inr tO⟩
  | gR n' m k b hm r p z w=>rw [r] at e ⊢;simp at e;subst e;exact ⟨rfl,.inr tO⟩
  | gk n' m k b hm r p z=>rw [r] at e ⊢;simp at e;subst e;exact ⟨rfl,.inr tO⟩
  | gl n' m k b hm r p z=>rw [r] at e ⊢;simp at e;subst e;exact ⟨rfl,.inr tO⟩
  | _=>omega
theorem HP.rc_pos {g:Gh} {h:Ha} {n:Nat} (H:HP g h) (e:rc h=some n) (z0:(g.lc n).rp=13∨(g.lc n).rp=14∨(g.lc n).rp=15):13≤h.pos∧h.pos≤15:=by
 unfold rc at e;split at e
 case isFalse=>cases e
 case isTrue a =>
  obtain ⟨k,J⟩:=a;cases H with
  | rV n hn k ce p z=>rw [ce] at e;simp at e;subst e;omega
  | rS0 n hn k ce p z s=>rw [ce] at e;simp at e;subst e;omega
  | rS1 n hn k ce p z s=>rw [ce] at e;simp at e;subst e;omega
  | rT00 n hn k ce p z s f=>rw [ce] at e;simp at e;subst e;omega
  | rT01 n hn k ce p z s f=>rw [ce] at e;simp at e;subst e;omega
  | rT10 n hn k ce p z s f=>rw [ce] at e;simp at e;subst e;omega
  | rT11 n hn k ce p z s f=>rw [ce] at e;simp at e;subst e;omega
  | rT2 n hn k ce p z s o=>rw [ce] at e;simp at e;subst e;omega
  | rT3 n hn k ce p z s o w=>rw [ce] at e;simp at e;subst e;omega
  | rw n hn k ce p z o w=>omega
  | rf n hn k ce p z o=>omega
  | rl n hn k ce p z=>omega
  | rW n hn k ce p z m=>rw [ce] at e;simp at e;subst e;omega
  | rF n hn k ce p z m=>rw [ce] at e;simp at e;subst e;omega
  | rm n hn k ce p z=>rw [ce] at e;simp at e;subst e;omega
  | g n' k b p=>obtain ⟨G,F,I⟩:=b;rw [F] at e;simp at e;subst e;omega
  | gF n' m k b hm r p z=>obtain ⟨G,F,I⟩:=b;rw [F] at e;simp at e;subst e;omega
  | gX n' m k b hm r p z=>obtain ⟨G,F,I⟩:=b;rw [F] at e;simp at e;subst e;omega
  | gU0 n' m k b hm r p z s=>obtain ⟨G,F,I⟩:=b;rw [F] at e;simp at e;subst e;omega
  | gU3 n' m k b hm r p z s w=>obtain ⟨G,F,I⟩:=b;rw [F] at e;simp at e;subst e;omega
  | gR n' m k b hm r p z w=>obtain ⟨G,F,I⟩:=b;rw [F] at e;simp at e;subst e;omega
  | gk n' m k b hm r p z=>obtain ⟨G,F,I⟩:=b;rw [F] at e;simp at e;subst e;omega
  | gl n' m k b hm r p z=>obtain ⟨G,F,I⟩:=b;rw [F] at e;simp at e;subst e;omega
  | _=>omega
theorem Q.stuck {c:Ch} {hs:List Ha} {g:Gh} (q:Q c hs g) (M:Mine c hs) (hc:aN c=true) (K:∀ i,i<hs.length→aU (aD hs i)=true) (no:∀ i,i<hs.length→(fu c (aD hs i)).2.2=false):Still c hs:=by
 have N:∀ i,i<hs.length→(aD hs i).pos≠0→((aD hs i).pos=10→(cellAt c (aD hs i).cell).s≠6)→((aD hs i).pos=18→(cellAt c (aD hs i).grow).s≠5)→((aD hs i).pos=23→dH c (aD hs i).mine≠0)→False:=by
  intro i F I a b d;have:=q.go M F hc (K i F) I a b d;rw [no i F] at this;cases this
 have R:∀ n,n<40→(aY c n).s≠5:=by
  intro n H V;have cl:=q.cell n H;have T:(g.lc n).s=5:=by have:=cl.s;omega
  have z:=(q.way n H).f_s5 T;obtain ⟨i,F,e⟩:=q.aR_ n H (by unfold gL;omega);have P:=(q.hand i F).rc_pos e z;exact N i F tO (fun h=>by omega) (fun h=>by omega) (fun h=>by omega)
 have G:∀ n,n<40→(aY c n).s≠6:=by
  intro n H h6;have cl:=q.cell n H;have U:(g.lc n).s=6:=by have:=cl.s;omega
  have z:=(q.way n H).f_s6 U;obtain ⟨i,F,e⟩:=q.aG_ n H (by unfold iM;omega);obtain ⟨r,P⟩:=(q.hand i F).gc_pos e;rcases P with P|P
  ·omega
  ·exact N i F tO (fun h=>by omega) (fun h=>by omega) (fun h=>by omega)
 intro i F;by_cases I:(aD hs i).pos=0
 ·exact .inl I
 ·right
  have A:(aD hs i).pos=10→(cellAt c (aD hs i).cell).s≠6:=by
   intro p;have B:=(hb_iff.1 (K i F)).2.cell;have:(aD hs i).cell=(((aD hs i).cell.toNat:Nat):Int):=by omega
   rw [gQ this];exact G _ tO
  have L:(aD hs i).pos=18→(cellAt c (aD hs i).grow).s≠5:=by
   intro p;have B:=(hb_iff.1 (K i F)).2.grow;have:(aD hs i).grow=(((aD hs i).grow.toNat:Nat):Int):=by omega
   rw [gQ this];exact R _ tO
  by_cases J:(aD hs i).pos=23
  ·refine ⟨J,Classical.byContradiction fun O=>N i F I A L fun _=>O⟩
  ·exact (N i F I A L fun h=>absurd h J).elim
end
section
def wD (ds:List De):List Int:=ds.filterMap fun d=>if d.reply=1 then some d.elem else none
def AO (ds:List De):List Int:=ds.filterMap fun d=>if d.reply=2 then some d.out else none
theorem HP.elem {g:Gh} {h:Ha} {n:Nat} (H:HP g h) (e:sc h=some n):g.el n=h.elem:=by
 unfold sc at e;split at e
 case isFalse=>cases e
 case isTrue hc =>
  obtain ⟨F,G⟩:=hc;have e:=Option.some.inj e;cases H with
  | rest p=>omega
  | s0 k p=>omega
  | r0 k p=>omega
  | sL m hm k c ee p q=>(obtain rfl:m=n:=by omega);exact ee
  | sK m hm k c ee p q=>(obtain rfl:m=n:=by omega);exact ee
  | sE m hm k c ee p q s=>(obtain rfl:m=n:=by omega);exact ee
  | sM0 m hm k c ee p q s f1=>(obtain rfl:m=n:=by omega);exact ee
  | sM1 m hm k c ee p q s f1=>(obtain rfl:m=n:=by omega);exact ee
  | sP1 m hm k c ee p q s=>(obtain rfl:m=n:=by omega);exact ee
  | sP0 m hm k c ee p q s f1 f2=>(obtain rfl:m=n:=by omega);exact ee
  | sPk m hm k c ee p q s f1=>(obtain rfl:m=n:=by omega);exact ee
  | sC m hm k c ee p q w=>(obtain rfl:m=n:=by omega);exact ee
  | sD m hm k c ee p q=>(obtain rfl:m=n:=by omega);exact ee
  | sW m hm k c ee p q w=>(obtain rfl:m=n:=by omega);exact ee
  | sm m hm k c ee p q=>(obtain rfl:m=n:=by omega);exact ee
  | rV m hm k c p q=>omega
  | rS0 m hm k c p q s=>omega
  | rS1 m hm k c p q s=>omega
  | rT00 m hm k c p q s f1=>omega
  | rT01 m hm k c p q s f1=>omega
  | rT10 m hm k c p q s f1=>omega
  | rT11 m hm k c p q s f1=>omega
  | rT2 m hm k c p q s o=>omega
  | rT3 m hm k c p q s o w=>omega
  | rw m hm k c p q o w=>omega
  | rf m hm k c p q o=>omega
  | rl m hm k c p q=>omega
  | rW m hm k c p q w=>omega
  | rF m hm k c p q w=>omega
  | rm m hm k c p q=>omega
  | g m k b p=>omega
  | gF m m2 k b hm r p q=>omega
  | gX m m2 k b hm r p q=>omega
  | gU0 m m2 k b hm r p q s=>omega
  | gU3 m m2 k b hm r p q s w=>omega
  | gR m m2 k b hm r p q w=>omega
  | gk m m2 k b hm r p q=>omega
  | gl m m2 k b hm r p q=>omega
theorem HP.rc_way {g:Gh} {h:Ha} {n:Nat} (H:HP g h) (e:rc h=some n):gL (g.lc n).rp∨(g.lc n).rp=70∨(g.lc n).rp=73:=by
 unfold rc at e;split at e
 case isFalse=>cases e
 case isTrue hc =>
  obtain ⟨F,G⟩:=hc;have e:=Option.some.inj e;have P:∀ m,Gp g h m→gL (g.lc n).rp∨(g.lc n).rp=70∨(g.lc n).rp=73:=by
   rintro m ⟨a,b,d⟩;obtain rfl:m=n:=by omega
   unfold gL;rcases d with ⟨_,d,_⟩|⟨_,d,_⟩|⟨_,d⟩ <;> omega
  cases H with
  | rest p=>omega
  | s0 k p=>omega
  | r0 k p=>omega
  | sL m hm k c e2 p q=>omega
  | sK m hm k c e2 p q=>omega
  | sE m hm k c e2 p q s=>omega
  | sM0 m hm k c e2 p q s f1=>omega
  | sM1 m hm k c e2 p q s f1=>omega
  | sP1 m hm k c e2 p q s=>omega
  | sP0 m hm k c e2 p q s f1 f2=>omega
  | sPk m hm k c e2 p q s f1=>omega
  | sC m hm k c e2 p q w=>omega
  | sD m hm k c e2 p q=>omega
  | sW m hm k c e2 p q w=>omega
  | sm m hm k c e2 p q=>omega
  | rV m hm k c p q=>(obtain rfl:m=n:=by omega);exact .inl pg
  | rS0 m hm k c p q s=>(obtain rfl:m=n:=by omega);exact .inl pg
  | rS1 m hm k c p q s=>(obtain rfl:m=n:=by omega);exact .inl pg
  | rT00 m hm k c p q s f1=>(obtain rfl:m=n:=by omega);exact .inl pg
  | rT01 m hm k c p q s f1=>(obtain rfl:m=n:=by omega);exact .inl pg
  | rT10 m hm k c p q s f1=>(obtain rfl:m=n:=by omega);exact .inl pg
  | rT11 m hm k c p q s f1=>(obtain rfl:m=n:=by omega);exact .inl pg
  | rT2 m hm k c p q s o=>(obtain rfl:m=n:=by omega);exact .inl pg
  | rT3 m hm k c p q s o w=>(obtain rfl:m=n:=by omega);exact .inl pg
  | rw m hm k c p q o w=>(obtain rfl:m=n:=by omega);exact .inl pg
  | rf m hm k c p q o=>(obtain rfl:m=n:=by omega);exact .inl pg
  | rl m hm k c p q=>(obtain rfl:m=n:=by omega);exact .inl pg
  | rW m hm k c p q w=>(obtain rfl:m=n:=by omega);exact .inl pg
  | rF m hm k c p q w=>(obtain rfl:m=n:=by omega);exact .inl pg
  | rm m hm k c p q=>(obtain rfl:m=n:=by omega);exact .inl pg
  | g m k b p=>exact P m b
  | gF m m2 k b hm r p q=>exact P m b
  | gX m m2 k b hm r p q=>exact P m b
  | gU0 m m2 k b hm r p q s=>exact P m b
  | gU3 m m2 k b hm r p q s w=>exact P m b
  | gR m m2 k b hm r p q w=>exact P m b
  | gk m m2 k b hm r p q=>exact P m b
  | gl m m2 k b hm r p q=>exact P m b
def UE (hs:List Ha) (g:Gh) (n:Nat):Prop:=(g.lc n).rp=74∨((g.lc n).rp=70∧∀ i,i<hs.length→rc (aD hs i)≠some n)
structure wE (x:Wo) (g:Gh) (D E:List Nat):Prop where
 q:Q x.ch x.hands g
 dn:D.Nodup
 de:∀ n,n ∈ D↔n<40∧(g.lc n).sp=30
 dm:D.map g.el=wD x.deals
 en:E.Nodup
 ee:∀ n,n ∈ E↔n<40∧UE x.hands g n
 em:E.map g.el=AO x.deals
 esp:∀ n,n<40→(g.lc n).rp=70∨(g.lc n).rp=74→(g.lc n).sp≠0
theorem wF (ds:List De) (d:De):wD (ds ++ [d])=wD ds ++ if d.reply=1 then [d.elem] else []:=by
 unfold wD;rw [List.filterMap_append];by_cases h:d.reply=1 <;> simp [h]
theorem xS (ds:List De) (d:De):AO (ds ++ [d])=AO ds ++ if d.reply=2 then [d.out] else []:=by
 unfold AO;rw [List.filterMap_append];by_cases h:d.reply=2 <;> simp [h]
theorem In.f_got {x:Lc} (h:In x) (F:x.rp=70∨x.rp=74):x.sp≠0:=by
 have:=h.imp (fun x=>Nat.beq x.rp 70 || Nat.beq x.rp 74) (fun x=>!(Nat.beq x.sp 0)) bH gN;simp only [Bool.not_eq_true',rq] at this;exact this
theorem ou {g g':Gh} {D:List Nat} (h:∀ n,n ∈ D→g'.el n=g.el n):D.map g'.el=D.map g.el:=List.map_congr_left h
def Add (x y:Wo) (i:Nat) (g':Gh) (D E D' E':List Nat):Prop :=
 (y.deals=x.deals∧D'=D∧E'=E)∨∃ d:De,y.deals=x.deals ++ [d]∧d.beg=(aD x.hands i).beg∧d.fin=x.now+1∧((D'=D∧E'=E∧d.reply≠1∧d.reply≠2)∨(∃ n,D'=D ++ [n]∧E'=E∧sc (aD x.hands i)=some n∧d.reply=1∧d.elem=g'.el n)∨∃ n,D'=D∧E'=E ++ [n]∧rc (aD x.hands i)=some n∧d.reply=2∧d.out=g'.el n)
theorem wE.step {x:Wo} {g:Gh} {D E:List Nat} (H:wE x g D E) {i:Nat} (I:i<x.hands.length):∃ g',((bP x (i:Int)).2=true→xP g g' (aD x.hands i) (aD (bP x (i:Int)).1.hands i)∧∃ ev,Nx g g' (aD x.hands i) (aD (bP x (i:Int)).1.hands i) ev)∧∃ D' E',wE (bP x (i:Int)).1 g' D' E'∧Add x (bP x (i:Int)).1 i g' D E D' E':=by
 have hh:aJ x (i:Int)=aD x.hands i:=by simp [aJ,aD]
 unfold bP stepW;rw [hh];generalize hs:fu x.ch (aD x.hands i)=s;obtain ⟨c',h',fl⟩:=s;cases fl with
 | false=>simp;exact ⟨g,D,E,H,.inl ⟨rfl,rfl,rfl⟩⟩
 | true =>
  by_cases hn:x.now=20000
  ·simp [hn];exact ⟨g,D,E,H,.inl ⟨rfl,rfl,rfl⟩⟩
  ·obtain ⟨g',Q',⟨ev,N⟩,F⟩:=H.q.step I hs
   have U:∀ (y:Wo),(fQ y (i:Int) h').hands=y.hands.set i h':=fun y=>by simp [fQ]
   have L:∀ n,n ∈ D→g'.el n=g.el n:=fun n V=>N.el n (by have:=((H.de n).1 V).2;omega)
   have M:∀ n,n ∈ E→g'.el n=g.el n:=fun n V=>by
    obtain ⟨a,b⟩:=(H.ee n).1 V;exact N.el n (H.esp n a (by rcases b with b|b;exact .inr b;exact .inl b.1))
   have SK:∀ n,n<40→(g'.lc n).rp=70∨(g'.lc n).rp=74→(g'.lc n).sp≠0:=fun n hn h=>(Q'.way n hn).f_got h
   have len:(x.hands.set i h').length=x.hands.length:=List.length_set;have G:(∀ n,ev≠.val n)→∀ n,n<40→(UE (x.hands.set i h') g' n↔UE x.hands g n):=fun hv n hn=>by
    unfold UE;rw [len];have a0:(g'.lc n).rp=74↔(g.lc n).rp=74:=⟨fun h=>(N.v74' n h).elim id (fun h=>absurd h.1 (hv n)),N.v74 n⟩;constructor
    ·rintro (h|⟨h1,h2⟩)
     ·exact .inl (a0.1 h)
     ·have hi':=h2 i I
      rw [dI h' I,if_pos rfl] at hi';have O:=(N.v70' n h1).elim id (fun h=>absurd h hi');refine .inr ⟨O,fun j J=>?_⟩;by_cases e:i=j
      ·subst e
       exact fun hr=>(N.keep n O hr).elim hi' (hv n)
      ·have:=h2 j J
       rwa [dI h' I,if_neg e] at this
    ·rintro (h|⟨h1,h2⟩)
     ·exact .inl (a0.2 h)
     ·refine .inr ⟨N.v70 n h1,fun j J=>?_⟩
      rw [dI h' I];by_cases e:i=j
      ·subst e
       rw [if_pos rfl];intro hr;rcases N.cl n hr with h|h
       ·exact h2 i I h
       ·omega
      ·rw [if_neg e];exact h2 j J
   have Y:(∀ n,ev≠.ok n)→∀ n,n ∈ D↔n<40∧(g'.lc n).sp=30:=fun hv n=>by
    rw [H.de,N.ok];exact ⟨fun h=>⟨h.1,.inl h.2⟩,fun h=>⟨h.1,h.2.elim id (fun e=>absurd e (hv n))⟩⟩
   by_cases hp:h'.pos=0
   ·simp [hn,hp]
    by_cases T:1000≤x.deals.length∨jT (aD x.hands i).code (aD x.hands i).elem h'.reply=false
    ·simp [T];exact ⟨g,D,E,H,.inl ⟨rfl,rfl,rfl⟩⟩
    ·simp [T]
     have hd:=U { x with now:=x.now+1 }
     cases ev with
     | no =>
      have r1:h'.reply≠1:=fun r=>by obtain ⟨n,e⟩:=N.ok1 hp r;cases e
      have r2:h'.reply≠2:=fun r=>by obtain ⟨n,e⟩:=N.val1 hp r;cases e
      refine ⟨g',⟨by simpa [fQ,dI h' I] using F,_,by simpa [fQ,dI h' I] using N⟩,D,E,⟨?_,H.dn,Y (fun n e=>by cases e),?_,H.en,?_,?_,SK⟩,.inr ⟨_,rfl,rfl,rfl,.inl ⟨rfl,rfl,r1,r2⟩⟩⟩
      ·simpa [fQ] using Q'
      ·rw [ou L,H.dm]
       show _=wD (x.deals ++ [_]);rw [wF];simp [r1]
      ·intro n
       rw [H.ee];constructor
       ·rintro ⟨a,b⟩;exact ⟨a,by simpa [fQ] using (G (fun n e=>by cases e) n a).2 b⟩
       ·rintro ⟨a,b⟩;exact ⟨a,(G (fun n e=>by cases e) n a).1 (by simpa [fQ] using b)⟩
      ·rw [ou M,H.em]
       show _=AO (x.deals ++ [_]);rw [xS];simp [r2]
     | ok n0 =>
      obtain ⟨s0,_,r1⟩:=N.oke n0 rfl;obtain ⟨X,K⟩:=(H.q.hand i I).sc_at s0;have a2:(g.lc n0).sp≠30:=by have:=K.2;omega
      have a1:g'.el n0=(aD x.hands i).elem:=(N.el n0 K.1).trans ((H.q.hand i I).elem s0);have R:n0 ∉ D:=fun V=>a2 ((H.de n0).1 V).2
      refine ⟨g',⟨by simpa [fQ,dI h' I] using F,_,by simpa [fQ,dI h' I] using N⟩,D ++ [n0],E,⟨?_,?_,?_,?_,H.en,?_,?_,SK⟩,.inr ⟨_,rfl,rfl,rfl,.inr (.inl ⟨n0,rfl,rfl,s0,r1,a1.symm⟩)⟩⟩
      ·simpa [fQ] using Q'
      ·rw [List.nodup_append]
       exact ⟨H.dn,by simp,fun a ha b hb=>by simp at hb;subst hb;exact fun e=>R (e ▸ ha)⟩
      ·intro n
       rw [List.mem_append,H.de,N.ok];simp only [List.mem_singleton,Ev.ok.injEq];constructor
       ·rintro (h|h)
        ·exact ⟨h.1,.inl h.2⟩
        ·subst h;exact ⟨X,.inr rfl⟩
       ·rintro ⟨a,b|b⟩
        ·exact .inl ⟨a,b⟩
        ·exact .inr b.symm
      ·rw [List.map_append,ou L,H.dm]
       show _=wD (x.deals ++ [_]);rw [wF];simp [r1,a1]
      ·intro n
       rw [H.ee];constructor
       ·rintro ⟨a,b⟩;exact ⟨a,by simpa [fQ] using (G (fun n e=>by cases e) n a).2 b⟩
       ·rintro ⟨a,b⟩;exact ⟨a,(G (fun n e=>by cases e) n a).1 (by simpa [fQ] using b)⟩
      ·rw [ou M,H.em]
       show _=AO (x.deals ++ [_]);rw [xS];simp [r1]
     | val n0 =>
      obtain ⟨r0,Z,_,r2,o0,g0⟩:=N.vale n0 rfl;obtain ⟨X,_⟩:=(H.q.hand i I).rc_at r0;have R:n0 ∉ E:=fun V=>by
       rcases ((H.ee n0).1 V).2 with h|⟨_,h⟩
       ·have K:gL (g.lc n0).rp∨(g.lc n0).rp=70∨(g.lc n0).rp=73:=(H.q.hand i I).rc_way r0
        rcases K with a|a|a
        ·have:=a.2;omega
        ·omega
        ·omega
       ·exact h i I r0
      refine ⟨g',⟨by simpa [fQ,dI h' I] using F,_,by simpa [fQ,dI h' I] using N⟩,D,E ++ [n0],⟨?_,H.dn,Y (fun n e=>by cases e),?_,?_,?_,?_,SK⟩,.inr ⟨_,rfl,rfl,rfl,.inr (.inr ⟨n0,rfl,rfl,r0,r2,o0⟩)⟩⟩
      ·simpa [fQ] using Q'
      ·rw [ou L,H.dm]
       show _=wD (x.deals ++ [_]);rw [wF];simp [r2]
      ·rw [List.nodup_append]
       exact ⟨H.en,by simp,fun a ha b hb=>by simp at hb;subst hb;exact fun e=>R (e ▸ ha)⟩
      ·intro n
       rw [List.mem_append,H.ee];simp only [List.mem_singleton];show _↔n<40∧UE (fQ _ (i:Int) h').hands g' n;rw [U x];constructor
       ·rintro (⟨a,b⟩|b)
        ·have ne:n≠n0:=fun e=>R (e ▸ (H.ee n).2 ⟨a,b⟩)
         refine ⟨a,?_⟩;rcases b with b|⟨b1,b2⟩
         ·exact .inl (N.v74 n b)
         ·refine .inr ⟨N.v70 n b1,fun j J=>?_⟩
          rw [len] at J;rw [dI h' I];by_cases e:i=j
          ·subst e
           rw [if_pos rfl,Z];exact fun h=>by cases h
          ·rw [if_neg e];exact b2 j J
        ·subst b
         refine ⟨X,?_⟩;rcases g0 with g0|g0
         ·exact .inl g0
         ·refine .inr ⟨g0,fun j J=>?_⟩
          rw [len] at J;rw [dI h' I];by_cases e:i=j
          ·subst e
           rw [if_pos rfl,Z];exact fun h=>by cases h
          ·rw [if_neg e];exact H.q.ur i j n I J e r0
       ·rintro ⟨a,b⟩
        by_cases e:n=n0
        ·exact .inr e
        ·refine .inl ⟨a,?_⟩
         rcases b with b|⟨b1,b2⟩
         ·rcases N.v74' n b with h|⟨h,_⟩
          ·exact .inl h
          ·cases h;exact absurd rfl e
         ·have O:=(N.v70' n b1).elim id (fun h=>by rw [Z] at h;cases h)
          refine .inr ⟨O,fun j J=>?_⟩;by_cases e2:i=j
          ·subst e2
           rw [r0];exact fun h=>e (Option.some.inj h).symm
          ·have:=b2 j (by rw [len];exact J)
           rwa [dI h' I,if_neg e2] at this
      ·rw [List.map_append,ou M,H.em]
       show _=AO (x.deals ++ [_]);rw [xS];simp [r2,o0]
   ·simp [hn,hp]
    have vn:∀ n,ev≠.val n:=fun n e=>hp (N.vale n e).2.2.1
    have on:∀ n,ev≠.ok n:=fun n e=>hp (N.oke n e).2.1
    refine ⟨g',⟨by simpa [fQ,dI h' I] using F,_,by simpa [fQ,dI h' I] using N⟩,D,E,⟨?_,H.dn,Y on,?_,H.en,?_,?_,SK⟩,.inl ⟨rfl,rfl,rfl⟩⟩
    ·simpa [fQ] using Q'
    ·rw [ou L];exact H.dm
    ·intro n
     rw [H.ee];constructor
     ·rintro ⟨a,b⟩;exact ⟨a,by simpa [fQ] using (G vn n a).2 b⟩
     ·rintro ⟨a,b⟩;exact ⟨a,(G vn n a).1 (by simpa [fQ] using b)⟩
    ·rw [ou M];exact H.em
end
end Go.Proofs.YtffhjmepfojhnaaGreat
