/-
  Rounds till nobody goes on, of the reference model; lists lie in memory and hold at most 2 ^ 40 elements.
-/
import Derived.Test.YtffhjmepfojhnaaGreatT38
import Derived.Test.YtffhjmepfojhnaaGreatT05
import Derived.Test.YtffhjmepfojhnaaGreatT08
set_option maxRecDepth 100000
set_option maxHeartbeats 4000000
set_option linter.unusedSimpArgs false
set_option linter.unusedVariables false
namespace Go.Proofs.YtffhjmepfojhnaaGreat
open _root_.Go.Proofs.Tryz
open Go.RowKit
attribute [local simp] dz
attribute [local go_sem ↓] dA dO dP jv bK
attribute [local go_sem] iG
theorem dG.offb {w:World} {lo b:Nat} {v1 v2 v3 v4:Value} {y:Wo} {G:Array Value} (h:dG w lo v1 v2 v3 v4 y) (F:hp w b=some (.cells G 35)):Cx b v1 v2 v3 v4:=⟨fun e=>fe h.1 F cB b e rfl,fun e=>fe h.2.1 F cB b e rfl,fun e=>fe h.2.2.1 F cB b e rfl,fun e=>fe h.2.2.2 F cB b e rfl⟩
theorem QK {n:Nat} {y:Wo} (h:y.hands.all (fun h=>h.pos == 0)=true):mQ n y=(y,0):=by
 cases n with
 | zero=>rfl
 | succ n=>unfold mQ;rw [if_pos h]
theorem NL {n:Nat} {y:Wo} (h:y.hands.all (fun h=>h.pos == 0)=false) (hs:(kG y).2=false):mQ (n+1) y=(y,0):=by
 unfold mQ;rw [h,hs];rfl
theorem QM {n:Nat} {y:Wo} (h:y.hands.all (fun h=>h.pos == 0)=false) (hs:(kG y).2=true):mQ (n+1) y=((mQ n (kG y).1).1,(mQ n (kG y).1).2+1):=by
 rw [mQ,h,hs];rfl
theorem Kv (k:Nat):∀ (i:Nat) (x:Wo),eP x→i+k≤x.hands.length→eP (tu k i x).1∧(tu k i x).1.hands.length=x.hands.length:=by
 induction k with
 | zero=>exact fun i x h _=>⟨h,rfl⟩
 | succ k ih =>
  intro i x h H;unfold tu;split
  ·exact ih (i+1) x h tO
  ·have h1:eP (bP x (i:Int)).1∧(bP x (i:Int)).1.hands.length=x.hands.length:=by
    cases hs:(bP x (i:Int)).2 with
    | true=>obtain ⟨F,G,_⟩:=ll h (by simp [bW,gP,dV];omega) hs;exact ⟨F,G⟩
    | false=>rw [Ku hs];exact ⟨h,rfl⟩
   obtain ⟨a,b⟩:=ih (i+1) (bP x (i:Int)).1 h1.1 tO;exact ⟨a,b.trans h1.2⟩
theorem yX {x:Wo} (h:eP x):eP (kG x).1∧(kG x).1.hands.length=x.hands.length:=Kv _ 0 x h tO
theorem uP (x:Wo) (most:Int) (a b d e:Option Addr) (p q r s:Nat) (w:World) (h1:gG w w a x.ch.cells) (z1:a=none→p=0) (h2:gI w w b x.ch.words) (z2:b=none→q=0) (h3:qX w w d x.hands) (z3:d=none→x.hands.length=0∧r=0) (h4:uh w w e x.deals) (z4:e=none→x.deals.length=0∧s=0) (m1:x.ch.cells.length≤1099511627776) (m2:x.ch.words.length≤1099511627776) (m3:x.hands.length≤1099511627776) (m4:x.deals.length≤1099511627776) (hk:dB x=true) (al:0≤most) (am:most≤20000) :
  Calls prog 36 #[oI x a b d e p q r s,.int .i64 most] w fun r w'=>ig w w' (setW x most).1 (.int .i64 (setW x most).2) r:=by
 have H1:=aA h1;have H2:=aA h2;have H3:=aA h3;have H4:=aA h4;have Z1:=aA z1;have Z2:=aA z2;have Z3:=aA z3;have Z4:=aA z4;clear h1 h2 h3 h4 z1 z2 z3 z4;have e0:setW x most=((mQ most.toNat x).1,((mQ most.toNat x).2:Int)):=by simp [setW,hk,lF al am]
 rw [e0];have b5:dV most 0 20000=true:=lF al am;clear e0;go_enter func36,ntmps36;go_wp2_with fail;refine aK w zB fun R=>?_;refine (eY x a b d e p q r s _ (aT H1 R) (aT H2 R) (aT H3 R) (aT H4 R) m3 m4).mono ?_;rintro _ w1 ⟨rfl,X⟩;have ax:Below w w w1:=bT R X;have an:=X.size;(try simp at an);have T:=And.intro (hQ X (b:=w+1)) <| hQ X (b:=w);(try simp [go_sem] at T);(try clear F L K I);(try clear a0 ag ae U);obtain ⟨F,a0⟩:=T;obtain ⟨L,K,I⟩:=bO F;obtain ⟨ag,ae,U⟩:=bO a0;clear X R
 rw [hk];go_wp2_with fail;refine aK w zB fun R=>?_;refine (iR x a b d e p q r s _ (aT H1 R) Z1.out (aT H2 R) Z2.out (aT H3 R) Z3.out (aT H4 R) Z4.out m1 m2 m3 m4).mono ?_;rintro _ w3 ⟨⟨v1,v2,v3,v4,rfl,o1,o2,a9,o4⟩,Y⟩;have ay:Below w w w3:=bT R Y;have ao:=Y.size;(try simp at ao);have T:=And.intro (hQ Y (b:=w+1)) <| hQ Y (b:=w);(first|simp [go_sem,F,a0,U,I] at T|simp [go_sem] at T|skip);(try clear F L K I);(try clear a0 ag ae U);obtain ⟨F,a0⟩:=T;obtain ⟨L,K,I⟩:=bO F;obtain ⟨ag,ae,U⟩:=bO a0;clear Y R
 try simp at o1 o2 a9 o4
 have O1:=aA o1;have O2:=aA o2;have O3:=aA a9;have O4:=aA o4;obtain ⟨va,vc,rfl,_⟩:=aF.seg o1;obtain ⟨vb,vd,rfl,_⟩:=aI.seg o2;obtain ⟨vf,vg,rfl,_⟩:=dY.seg a9;obtain ⟨vh,vi,rfl,_⟩:=gU.seg o4;clear o1 o2 a9 o4;have hr:=(eZ x).1 hk;go_wp2_with (go_at_call 81;refine (rP _ _).mono ?_;rintro _ _ ⟨rfl,rfl⟩);have aj:dG w3 (w+1+1) (.slice va x.ch.cells vc) (.slice vb x.ch.words vd) (.slice vf x.hands vg) (.slice vh x.deals vi) x:=dG.lo (lo:=w1) ⟨O1.out,O2.out,O3.out,O4.out⟩ tO
 clear O1 O2 O3 O4;go_loopw [7] (fun n wr=>∃ (k:Nat) (y:Wo) (v1 v2 v3 v4:Value),k≤most.toNat∧n=.int .i64 k∧eP y∧mQ most.toNat x=((mQ (most.toNat - k) y).1,(mQ (most.toNat - k) y).2+k)∧dG wr (w+1+1) v1 v2 v3 v4 y∧Cx w3 v1 v2 v3 v4∧hp wr w3=some (.cells #[y.ch.cap,y.ch.sent,y.ch.got,y.ch.fin,v1,v2,v3,v4,y.now] 35)∧hp wr (w+1)=some (.cells #[.int .i64 0,.int .i64 0,.int .i64 0,.int .i64 0,.slice none 0 0,.slice none 0 0,.slice none 0 0,.slice none 0 0,.int .i64 0] 35)∧w3+1≤wr.heap.size∧Below w w wr) (fun n _=>most.toNat - (intOf n).toNat)
 case atStart =>
  refine ⟨0,x,_,_,_,_,Nat.zero_le _,rfl,hr,by simp,dG.alloc aj _,aj.ne' (Nat.le_refl _),heap_alloc_new w3 _,?_,by simp,zB⟩;simp [go_sem, *]
 case round =>
  obtain ⟨k,y,v1,v2,v3,v4,b0,rfl,hy,ak,a6,ac,G,F,b6,hB⟩:=hrel;obtain ⟨y1,y2,y3,y4⟩:=iX hy;have U:w<wr.heap.size:=tO;have I:w+1<wr.heap.size:=tO;have J:w3<wr.heap.size:=tO;have L:∀ o,wr.cell? ⟨w+1,o,none⟩=_:=fun o=>cell_of_row wr (w+1) o _ _ _ F
  have K:∀ o,wr.frozen? ⟨w+1,o,none⟩=false:=dJ F;have N:∀ o,wr.frozen? ⟨w3,o,none⟩=false:=dJ G;have OW:=aA a6;obtain ⟨a1,a2,a3,a4,c1,c2,c3,c4,rfl,rfl,rfl,rfl,s1,t1,s2,t2,s3,t3,s4,t4⟩:=a6.opens;have O:∀ o,wr.cell? ⟨w3,o,none⟩=_:=fun o=>cell_of_row wr w3 o _ _ _ G
  have OF:=aA ac;have AL:=aA ak;clear ak a6 ac s1 s2 s4;have S3:=aA s3;clear s3;have N1:=OW.out.ne (b:=w+1) tO;have OL:=OW.out.lo (lo':=w) tO;by_cases b3:k<most.toNat
  ·have au:(k:Int)<most:=by omega
   have RR:=Gi y.ch y.hands y.deals y.now a1 a2 a3 a4 c1 c2 c3 c4 wr S3.out y3;cases a7:y.hands.all (fun h=>h.pos == 0) with
   | true =>
    rw [a7] at RR;have ea:mQ most.toNat x=(y,k):=by rw [AL.out,QK a7];simp
    have EA:=aA ea;clear ea;go_wp2_with fail;refine aK w zB fun R=>?_;refine aK wr zB fun bk=>?_;refine (RR).mono ?_;rintro _ w5 ⟨rfl,H⟩;have aa:Below w w w5:=bT R H;have Z:=H.size;(try simp at Z);have T:=And.intro (hQ H (b:=w3)) <| hQ H (b:=w+1);(first|simp [go_sem,G,F,U,J,I] at T|simp [go_sem] at T|skip);(try clear G O N J);(try clear F L K I);obtain ⟨G,F⟩:=T;obtain ⟨O,N,J⟩:=bO G;obtain ⟨L,K,I⟩:=bO F;have V:Below wr wr w5:=bT bk H;clear H R bk
    have ah:=OL.below V;go_wp2
    (try rw [EA.out])
    exact Oh
   | false =>
    rw [a7] at RR;have ar:=yX hy;obtain ⟨m,hm⟩:∃ m,most.toNat - k=m+1:=⟨most.toNat - k - 1,by omega⟩;have af:most.toNat - (k+1)=m:=tO;cases hs:(kG y).2 with
    | false =>
     have ea:mQ most.toNat x=(y,k):=by rw [AL.out,hm,NL a7 hs];simp
     have EA:=aA ea;clear ea hm af;go_wp2_with fail;refine aK w zB fun R=>?_;refine aK wr zB fun bk=>?_;refine (RR).mono ?_;rintro _ w5 ⟨rfl,H⟩;have aa:Below w w w5:=bT R H;have Z:=H.size;(try simp at Z);have T:=And.intro (hQ H (b:=w3)) <| hQ H (b:=w+1);(first|simp [go_sem,G,F,U,J,I] at T|simp [go_sem] at T|skip);(try clear G O N J);(try clear F L K I);obtain ⟨G,F⟩:=T;obtain ⟨O,N,J⟩:=bO G;obtain ⟨L,K,I⟩:=bO F;have V:Below wr wr w5:=bT bk H;clear H R bk
     have ad:=OW.out.below V;have ah:=OL.below V;have a5:=xD y (w+1+1) _ _ _ _ w5 ad tO hy;rw [hs] at a5;go_wp2_with fail;refine aK w zB fun R=>?_;refine aK w5 zB fun bk=>?_;refine (a5).mono ?_;rintro _ w6 ⟨⟨u1,u2,u3,u4,rfl,uo⟩,M⟩;have ai:Below w w w6:=bT R M;have a8:=M.size;(try simp at a8);have T:=And.intro (hQ M (b:=w3)) <| hQ M (b:=w+1);(first|simp [go_sem,G,F,U,J,I] at T|simp [go_sem] at T|skip);(try clear G O N J);(try clear F L K I);obtain ⟨G,F⟩:=T;obtain ⟨O,N,J⟩:=bO G;obtain ⟨L,K,I⟩:=bO F;have ab:Below w5 w5 w6:=bT bk M;clear M R bk
     have az:=ah.below ab;obtain ⟨b1,b2,aq,b4,d1,d2,d3,d4,rfl,rfl,rfl,rfl,_⟩:=uo.opens;go_wp2;rw [EA.out];exact Oh
    | true =>
     have ea:mQ most.toNat x=((mQ (most.toNat - (k+1)) (kG y).1).1,(mQ (most.toNat - (k+1)) (kG y).1).2+(k+1)):=by
      rw [AL.out,hm,af,QM a7 hs];simp;omega
     have EA:=aA ea;clear ea hm af;go_wp2_with fail;refine aK w zB fun R=>?_;refine aK wr zB fun bk=>?_;refine (RR).mono ?_;rintro _ w5 ⟨rfl,H⟩;have aa:Below w w w5:=bT R H;have Z:=H.size;(try simp at Z);have T:=And.intro (hQ H (b:=w3)) <| hQ H (b:=w+1);(first|simp [go_sem,G,F,U,J,I] at T|simp [go_sem] at T|skip);(try clear G O N J);(try clear F L K I);obtain ⟨G,F⟩:=T;obtain ⟨O,N,J⟩:=bO G;obtain ⟨L,K,I⟩:=bO F;have V:Below wr wr w5:=bT bk H;clear H R bk
     have ad:=OW.out.below V;have b7:=OF.out;have a5:=xD y (w+1+1) _ _ _ _ w5 ad tO hy;rw [hs] at a5;generalize (kG y).1=y' at *;go_wp2_with fail;refine aK w zB fun R=>?_;refine aK w5 zB fun bk=>?_;refine (a5).mono ?_;rintro _ w6 ⟨⟨u1,u2,u3,u4,rfl,uo⟩,M⟩;have ai:Below w w w6:=bT R M;have a8:=M.size;(try simp at a8);have T:=And.intro (hQ M (b:=w3)) <| hQ M (b:=w+1);(first|simp [go_sem,G,F,U,J,I] at T|simp [go_sem] at T|skip);(try clear G O N J);(try clear F L K I);obtain ⟨G,F⟩:=T;obtain ⟨O,N,J⟩:=bO G;obtain ⟨L,K,I⟩:=bO F;have ab:Below w5 w5 w6:=bT bk M;clear M R bk
     have ap:=dG.offb uo G;have aw:=uo.ne (b:=w+1) tO;have UO:=aA uo;obtain ⟨b1,b2,aq,b4,d1,d2,d3,d4,rfl,rfl,rfl,rfl,_⟩:=uo.opens;have av:=UO.out.ne' (b:=w6) (Nat.le_refl _);have UW:=UO.out;go_wp2;go_roundw
     case rel=>exact ⟨k+1,y',_,_,_,_,by omega,by go_num,ar.1,EA.out,by (repeat (first|with_reducible assumption|with_reducible refine dG.alloc ?_ _|with_reducible refine dG.drew ?_|((with_reducible refine dG.store ?_ ?_ _);rotate_left;(focus (first|exact ap|exact av|exact aw))))),ap,by simp [go_sem, *],by simp [go_sem, *],by simp;omega,zB⟩
     case measure=>simp [intOf];omega
  ·have au:¬ (k:Int)<most:=by omega
   have ea:mQ most.toNat x=(y,k):=by
    have e0:most.toNat - k=0:=tO;rw [AL.out,e0];simp [mQ]
   go_wp2
   (try rw [ea])
   exact Oh
end Go.Proofs.YtffhjmepfojhnaaGreat
