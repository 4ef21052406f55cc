/-
  A round of steps, of the reference model; lists lie in memory and hold at most 2 ^ 40 elements.
-/
import Derived.Test.YtffhjmepfojhnaaGreatS38
import Derived.Test.YtffhjmepfojhnaaGreatS02
import Derived.Test.YtffhjmepfojhnaaGreatS04
import Derived.Test.YtffhjmepfojhnaaGreatS08
set_option maxRecDepth 100000
set_option maxHeartbeats 4000000
set_option linter.unusedSimpArgs false
set_option linter.unusedVariables false
namespace Go.Proofs.YtffhjmepfojhnaaGreat
open _root_.Go.Proofs.Tryz
section
open Go.RowKit
attribute [local simp] aP
attribute [local go_sem ↓] aQ aY aZ gK aN
attribute [local go_sem] fF
theorem Nj {x:Wo} {who:Int} (h:(eT x who).2=false):(eT x who).1=x:=by
 unfold eT stepW at h ⊢
 split at h
 ·rename_i e;rw [if_pos e]
 ·rename_i e
  rw [if_neg e]
  split at h
  ·cases h
  ·rename_i m
   rw [if_neg m]
   split at h
   ·rename_i q;rw [if_pos q]
   ·cases h
theorem sQ (x:Wo) (lo:Nat) (v1 v2 v3 v4:Value) (w:World) (h:dO w lo v1 v2 v3 v4 x) (ak:lo≤w.heap.size) (hx:fK x) :
  Calls prog 83 #[.agg #[x.ch.cap,x.ch.sent,x.ch.got,x.ch.fin,v1,v2,v3,v4,x.now]] w fun r w'=>(∃ L M N O,r=.returned (.tuple #[.agg #[.int .i64 (jM x).1.ch.cap,.int .i64 (jM x).1.ch.sent,.int .i64 (jM x).1.ch.got,.int .i64 (jM x).1.ch.fin,L,M,N,O,.int .i64 (jM x).1.now],.bool (jM x).2])∧dO w' lo L M N O (jM x).1)∧Below w w w':=by
 have HO:=aA h
 have n0:=h.ne' (b:=w) (Nat.le_refl _)
 have n1:=h.ne' (b:=w+1) tO
 clear h
 obtain ⟨a,b,d,e,p,q,r,s,rfl,rfl,rfl,rfl,_⟩:=HO.out.opens
 go_enter func83,ntmps83
 go_wp2
 go_loopw [4,5] (fun sm i wr=>∃ (k:Nat) (y:Wo) (t:Bool) (L M N O:Value),k≤x.hands.length∧i=.int .i64 k∧sm=.bool t∧fK y∧y.hands.length=x.hands.length∧jM x=((qx (x.hands.length - k) k y).1,t || (qx (x.hands.length - k) k y).2)∧dO wr lo L M N O y∧Bz w L M N O∧Bz (w+1) L M N O∧hp wr w=some (.cells #[y.ch.cap,y.ch.sent,y.ch.got,y.ch.fin,L,M,N,O,y.now] 35)∧hp wr (w+1)=some (.cells #[.int .i64 0,.int .i64 0,.int .i64 0,.int .i64 0,.slice none 0 0,.slice none 0 0,.slice none 0 0,.slice none 0 0,.int .i64 0] 35)∧w+1<wr.heap.size∧Below w w wr) (fun _ i _=>x.hands.length - (intOf i).toNat)
 case atStart =>
  refine ⟨0,x,false,_,_,_,_,Nat.zero_le _,rfl,rfl,hx,rfl,by simp [jM],dO.alloc (dO.alloc HO.out _) _,n0,n1,?_,?_,by simp,by exact zB⟩
  all_goals (simp [go_sem, *])
 case round =>
  obtain ⟨k,y,t,L,M,N,O,hk,rfl,rfl,Y,a9,a0,G,T,U,E,u,af,hB⟩:=hrel
  obtain ⟨y1,y2,y3,y4⟩:=lZ Y
  have V:w<wr.heap.size:=by omega
  have H:w+1<wr.heap.size:=by omega
  have R:∀ o,wr.cell? ⟨w+1,o,none⟩=_:=fun o=>cell_of_row wr (w+1) o _ _ _ u
  have K:∀ o,wr.frozen? ⟨w+1,o,none⟩=false:=dH u
  have Z:∀ o,wr.frozen? ⟨w,o,none⟩=false:=dH E
  have OW:=aA G
  obtain ⟨a1,a2,a3,a4,c1,c2,c3,c4,rfl,rfl,rfl,rfl,s1,t1,s2,t2,s3,t3,s4,t4⟩:=G.opens
  have aa:∀ o,wr.cell? ⟨w,o,none⟩=_:=fun o=>cell_of_row wr w o _ _ _ E
  have AL:=aA a0
  have HL:=aA a9
  clear a0 G
  have S1:=aA s1
  have S2:=aA s2
  have S3:=aA s3
  have S4:=aA s4
  clear s1 s2 s3 s4
  by_cases al:k<x.hands.length
  ·have ad:k<y.hands.length:=by omega
   obtain ⟨m,hm⟩:∃ m,x.hands.length - k=m+1:=⟨x.hands.length - k - 1,by omega⟩
   have I:x.hands.length - (k+1)=m:=by omega
   obtain ⟨g,gq,eg,_,lg,a5,_⟩:=cO.open1 OW.out.2.2.1 ad
   simp at eg
   obtain ⟨rfl,rfl⟩:=eg
   have ag:wr.cell? ⟨g,k*14,none⟩=some (.int .i64 (aL y (k:Int)).pos):=(a5 0 tO).trans (by simp [aL,aB,Array.getD])
   clear a5
   have aj:(0:Int)≤(k:Int):=by omega
   have ae:(k:Int)<(y.hands.length:Int):=by omega
   clear a9
   by_cases a6:(aL y (k:Int)).pos=0
   ·have J:jM x=((qx (x.hands.length - (k+1)) (k+1) y).1,t || (qx (x.hands.length - (k+1)) (k+1) y).2):=by rw [AL.out,hm,I];simp [qx,a6]
    have X:=aA J
    clear J hm I
    go_wp2
    go_roundw
    case rel=>exact ⟨k+1,y,t,_,_,_,_,by omega,by go_num,rfl,Y,HL.out,X.out,OW.out,T,U,E,u,af,hB⟩
    case measure=>simp [intOf];omega
   ·have hY:=uO y k a1 a2 (some ⟨g,0,none⟩) a4 c1 c2 c3 c4 wr S1.out t1 S2.out t2 S3.out t3 S4.out t4 y1 y2 y3 y4 (by simp [cK,eH,dA];omega) ⟨Y.n0,Y.n1⟩
    have a7:fK (eT y (k:Int)).1∧(eT y (k:Int)).1.hands.length=x.hands.length:=by
     cases hs:(eT y (k:Int)).2 with
     | true=>obtain ⟨r1,r2,_⟩:=lS Y (by simp [cK,eH,dA];omega) hs;exact ⟨r1,r2.trans HL.out⟩
     | false=>rw [show (eT y (k:Int)).1=y from Nj hs];exact ⟨Y,HL.out⟩
    have J:jM x=((qx (x.hands.length - (k+1)) (k+1) (eT y (k:Int)).1).1,(t || (eT y (k:Int)).2) || (qx (x.hands.length - (k+1)) (k+1) (eT y (k:Int)).1).2):=by rw [AL.out,hm,I];simp [qx,a6,Bool.or_assoc]
    have X:=aA J
    have HR:=aA a7
    clear J a7 hm I
    generalize ab:(eT y (k:Int)).1=y' at *
    generalize ac:(eT y (k:Int)).2=t' at *
    clear ab ac
    go_wp2_with fail;refine aK w zB fun bb=>?_;refine aK wr zB fun bk=>?_;refine (hY).mono ?_;rintro _ w5 ⟨⟨b1,b2,b3,b4,rfl,uo⟩,z⟩;have ah:Below w w w5:=bT bb z;have a8:=z.size;(try simp at a8);have zz:=And.intro (hQ z (b:=w+1)) <| hQ z (b:=w);(first|simp [go_sem,u,E,V,H] at zz|simp [go_sem] at zz|skip);(try clear u R K H);(try clear E aa Z V);obtain ⟨u,E⟩:=zz;obtain ⟨R,K,H⟩:=bO u;obtain ⟨aa,Z,V⟩:=bO E;have ai:Below wr wr w5:=bT bk z;clear z bb bk
    have UO:=aA uo
    obtain ⟨e1,e2,e3,e4,d1,d2,d3,d4,rfl,rfl,rfl,rfl,_⟩:=uo.opens
    have A:=UO.out.ne (b:=w) tO
    have D:=UO.out.ne (b:=w+1) tO
    have F:=UO.out.ne' (b:=w5) tO
    have UL:=UO.out.lo (lo':=lo) tO
    cases t <;> cases t'
    all_goals go_wp2
    all_goals go_roundw
    case rel=>exact ⟨k+1,y',_,_,_,_,_,by omega,by go_num,rfl,HR.out.1,HR.out.2,X.out,by (repeat (first|with_reducible assumption|with_reducible refine dO.alloc ?_ _|with_reducible refine dO.drew ?_|((with_reducible refine dO.store ?_ ?_ _);rotate_left;(focus (first|exact T|exact U|exact A|exact D|exact F)))|((with_reducible refine dO.box ?_ ?_);rotate_left;(focus (first|exact T|exact U|exact A|exact D|exact F))))),A,D,by simp [go_sem, *],by simp [go_sem, *],by simp;omega,by exact zB⟩
    case measure=>simp [intOf];omega
    all_goals (first|exact ⟨k+1,y',_,_,_,_,_,by omega,by go_num,rfl,HR.out.1,HR.out.2,X.out,by (repeat (first|with_reducible assumption|with_reducible refine dO.alloc ?_ _|with_reducible refine dO.drew ?_|((with_reducible refine dO.store ?_ ?_ _);rotate_left;(focus (first|exact T|exact U|exact A|exact D|exact F)))|((with_reducible refine dO.box ?_ ?_);rotate_left;(focus (first|exact T|exact U|exact A|exact D|exact F))))),A,D,by simp [go_sem, *],by simp [go_sem, *],by simp;omega,by exact zB⟩|(simp [intOf];omega))
  ·have ae:¬ (k:Int)<(y.hands.length:Int):=by omega
   have J:jM x=(y,t):=by
    rw [AL.out,show x.hands.length - k=0 by omega]
    simp [qx]
   have X:=aA J
   clear J
   have OL:=OW.out
   go_wp2
   rw [X.out]
   refine bodyPost_ret (v:=.tuple #[.agg #[y.ch.cap,y.ch.sent,y.ch.got,y.ch.fin,.slice a1 y.ch.cells c1,.slice a2 y.ch.words c2,.slice a3 y.hands c3,.slice a4 y.deals c4,y.now],.bool t]) (by simp [results,results83,go_sem, *]) rfl ⟨⟨_,_,_,_,rfl,?_⟩,by exact zB⟩
   (repeat (first|with_reducible assumption|with_reducible refine dO.alloc ?_ _|with_reducible refine dO.drew ?_|((with_reducible refine dO.store ?_ ?_ _);rotate_left;(focus (first|exact T|exact U|exact A|exact D|exact F)))|((with_reducible refine dO.box ?_ ?_);rotate_left;(focus (first|exact T|exact U|exact A|exact D|exact F)))))
end
section
open Go.RowKit
attribute [local simp] aP
attribute [local go_sem ↓] aQ aY aZ gK aN
attribute [local go_sem] fF
theorem dO.offb {w:World} {lo b:Nat} {q r u z:Value} {y:Wo} {A:Array Value} (h:dO w lo q r u z y) (m:hp w b=some (.cells A 35)):Bz b q r u z:=⟨fun e=>bH h.1 m (by decide) b e rfl,fun e=>bH h.2.1 m (by decide) b e rfl,fun e=>bH h.2.2.1 m (by decide) b e rfl,fun e=>bH h.2.2.2 m (by decide) b e rfl⟩
theorem Nk {n:Nat} {y:Wo} (h:y.hands.all (fun h=>h.pos == 0)=true):lK n y=(y,0):=by
 cases n with
 | zero=>rfl
 | succ n=>unfold lK;rw [if_pos h]
theorem Km {n:Nat} {y:Wo} (h:y.hands.all (fun h=>h.pos == 0)=false) (hs:(jM y).2=false):lK (n+1) y=(y,0):=by
 unfold lK;rw [h,hs];rfl
theorem Nl {n:Nat} {y:Wo} (h:y.hands.all (fun h=>h.pos == 0)=false) (hs:(jM y).2=true):lK (n+1) y=((lK n (jM y).1).1,(lK n (jM y).1).2+1):=by
 rw [lK,h,hs];rfl
theorem GK (k:Nat):∀ (i:Nat) (x:Wo),fK x→i+k≤x.hands.length→fK (qx k i x).1∧(qx k i x).1.hands.length=x.hands.length:=by
 induction k with
 | zero=>exact fun i x h _=>⟨h,rfl⟩
 | succ k ih =>
  intro i x h r
  unfold qx
  split
  ·exact ih (i+1) x h tO
  ·have h1:fK (eT x (i:Int)).1∧(eT x (i:Int)).1.hands.length=x.hands.length:=by
    cases hs:(eT x (i:Int)).2 with
    | true=>obtain ⟨m,q,_⟩:=lS h (by simp [cK,eH,dA];omega) hs;exact ⟨m,q⟩
    | false=>rw [Nj hs];exact ⟨h,rfl⟩
   obtain ⟨a,b⟩:=ih (i+1) (eT x (i:Int)).1 h1.1 tO
   exact ⟨a,b.trans h1.2⟩
theorem uS {x:Wo} (h:fK x):fK (jM x).1∧(jM x).1.hands.length=x.hands.length:=GK _ 0 x h tO
theorem Eh (x:Wo) (most:Int) (a b d e:Option Addr) (p q r s:Nat) (w:World) (h1:fA w w a x.ch.cells) (z1:a=none→p=0) (h2:fD w w b x.ch.words) (z2:b=none→q=0) (h3:pF w w d x.hands) (z3:d=none→x.hands.length=0∧r=0) (h4:pG w w e x.deals) (z4:e=none→x.deals.length=0∧s=0) (m1:x.ch.cells.length≤1099511627776) (m2:x.ch.words.length≤1099511627776) (m3:x.hands.length≤1099511627776) (m4:x.deals.length≤1099511627776) (hk:bC x=true) (aj:0≤most) (ak:most≤20000) :
  Calls prog 36 #[kZ x a b d e p q r s,.int .i64 most] w fun r w'=>fE w w' (setW x most).1 (.int .i64 (setW x most).2) r:=by
 have H1:=aA h1
 have H2:=aA h2
 have H3:=aA h3
 have H4:=aA h4
 have Z1:=aA z1
 have Z2:=aA z2
 have Z3:=aA z3
 have Z4:=aA z4
 clear h1 h2 h3 h4 z1 z2 z3 z4
 have e0:setW x most=((lK most.toNat x).1,((lK most.toNat x).2:Int)):=by simp [setW,hk,lu aj ak]
 rw [e0]
 have b0:dA most 0 20000=true:=lu aj ak
 clear e0
 go_enter func36,ntmps36
 go_wp2_with fail;refine aK w zB fun K=>?_;refine (fG x a b d e p q r s _ (aT H1 K) (aT H2 K) (aT H3 K) (aT H4 K) m3 m4).mono ?_;rintro _ w1 ⟨rfl,O⟩;have av:Below w w w1:=bT K O;have al:=O.size;(try simp at al);have L:=And.intro (hQ O (b:=w+1)) <| hQ O (b:=w);(try simp [go_sem] at L);(try clear u G F D);(try clear Y ae ac M);obtain ⟨u,Y⟩:=L;obtain ⟨G,F,D⟩:=bO u;obtain ⟨ae,ac,M⟩:=bO Y;clear O K
 rw [hk]
 go_wp2_with fail;refine aK w zB fun K=>?_;refine (iE x a b d e p q r s _ (aT H1 K) Z1.out (aT H2 K) Z2.out (aT H3 K) Z3.out (aT H4 K) Z4.out m1 m2 m3 m4).mono ?_;rintro _ V ⟨⟨v1,v2,v3,v4,rfl,o1,o2,a7,o4⟩,R⟩;have aw:Below w w V:=bT K R;have am:=R.size;(try simp at am);have L:=And.intro (hQ R (b:=w+1)) <| hQ R (b:=w);(first|simp [go_sem,u,Y,M,D] at L|simp [go_sem] at L|skip);(try clear u G F D);(try clear Y ae ac M);obtain ⟨u,Y⟩:=L;obtain ⟨G,F,D⟩:=bO u;obtain ⟨ae,ac,M⟩:=bO Y;clear R K
 try simp at o1 o2 a7 o4
 have O1:=aA o1
 have O2:=aA o2
 have O3:=aA a7
 have O4:=aA o4
 obtain ⟨va,vc,rfl,_⟩:=aD.seg o1
 obtain ⟨vb,vd,rfl,_⟩:=aG.seg o2
 obtain ⟨vf,vg,rfl,_⟩:=cO.seg a7
 obtain ⟨vh,vi,rfl,_⟩:=dV.seg o4
 clear o1 o2 a7 o4
 have hr:=(gP x).1 hk
 go_wp2_with (go_at_call 81;refine (oI _ _).mono ?_;rintro _ _ ⟨rfl,rfl⟩)
 have ah:dO V (w+1+1) (.slice va x.ch.cells vc) (.slice vb x.ch.words vd) (.slice vf x.hands vg) (.slice vh x.deals vi) x:=dO.lo (lo:=w1) ⟨O1.out,O2.out,O3.out,O4.out⟩ tO
 clear O1 O2 O3 O4
 go_loopw [7] (fun n wr=>∃ (k:Nat) (y:Wo) (v1 v2 v3 v4:Value),k≤most.toNat∧n=.int .i64 k∧fK y∧lK most.toNat x=((lK (most.toNat - k) y).1,(lK (most.toNat - k) y).2+k)∧dO wr (w+1+1) v1 v2 v3 v4 y∧Bz V v1 v2 v3 v4∧hp wr V=some (.cells #[y.ch.cap,y.ch.sent,y.ch.got,y.ch.fin,v1,v2,v3,v4,y.now] 35)∧hp wr (w+1)=some (.cells #[.int .i64 0,.int .i64 0,.int .i64 0,.int .i64 0,.slice none 0 0,.slice none 0 0,.slice none 0 0,.slice none 0 0,.int .i64 0] 35)∧V+1≤wr.heap.size∧Below w w wr) (fun n _=>most.toNat - (intOf n).toNat)
 case atStart =>
  refine ⟨0,x,_,_,_,_,Nat.zero_le _,rfl,hr,by simp,dO.alloc ah _,ah.ne' (Nat.le_refl _),heap_alloc_new V _,?_,by simp,by exact zB⟩
  simp [go_sem, *]
 case round =>
  obtain ⟨k,y,v1,v2,v3,v4,ay,rfl,hy,ai,a0,aa,z,u,b3,hB⟩:=hrel
  obtain ⟨y1,y2,y3,y4⟩:=lZ hy
  have M:w<wr.heap.size:=by omega
  have D:w+1<wr.heap.size:=by omega
  have E:V<wr.heap.size:=by omega
  have G:∀ o,wr.cell? ⟨w+1,o,none⟩=_:=fun o=>cell_of_row wr (w+1) o _ _ _ u
  have F:∀ o,wr.frozen? ⟨w+1,o,none⟩=false:=dH u
  have I:∀ o,wr.frozen? ⟨V,o,none⟩=false:=dH z
  have OW:=aA a0
  obtain ⟨a1,a2,a3,a4,c1,c2,c3,c4,rfl,rfl,rfl,rfl,s1,t1,s2,t2,s3,t3,s4,t4⟩:=a0.opens
  have J:∀ o,wr.cell? ⟨V,o,none⟩=_:=fun o=>cell_of_row wr V o _ _ _ z
  have OF:=aA aa
  have AL:=aA ai
  clear ai a0 aa s1 s2 s4
  have S3:=aA s3
  clear s3
  have N1:=OW.out.ne (b:=w+1) tO
  have OL:=OW.out.lo (lo':=w) tO
  by_cases az:k<most.toNat
  ·have aq:(k:Int)<most:=by omega
   have RR:=CK y.ch y.hands y.deals y.now a1 a2 a3 a4 c1 c2 c3 c4 wr S3.out y3
   cases a5:y.hands.all (fun h=>h.pos == 0) with
   | true =>
    rw [a5] at RR
    have ea:lK most.toNat x=(y,k):=by rw [AL.out,Nk a5];simp
    have EA:=aA ea
    clear ea
    go_wp2_with fail;refine aK w zB fun K=>?_;refine aK wr zB fun X=>?_;refine (RR).mono ?_;rintro _ U ⟨rfl,A⟩;have a8:Below w w U:=bT K A;have T:=A.size;(try simp at T);have L:=And.intro (hQ A (b:=V)) <| hQ A (b:=w+1);(first|simp [go_sem,z,u,M,E,D] at L|simp [go_sem] at L|skip);(try clear z J I E);(try clear u G F D);obtain ⟨z,u⟩:=L;obtain ⟨J,I,E⟩:=bO z;obtain ⟨G,F,D⟩:=bO u;have N:Below wr wr U:=bT X A;clear A K X
    have af:=OL.below N
    go_wp2
    (try rw [EA.out])
    refine bodyPost_ret (v:=.tuple #[.agg #[y.ch.cap,y.ch.sent,y.ch.got,y.ch.fin,.slice a1 y.ch.cells c1,.slice a2 y.ch.words c2,.slice a3 y.hands c3,.slice a4 y.deals c4,y.now],.int .i64 k]) (by simp [results,results36,go_sem, *]) rfl ⟨⟨_,_,_,_,rfl,?_⟩,by exact zB⟩
    (repeat (first|with_reducible assumption|with_reducible refine dO.alloc ?_ _|with_reducible refine dO.drew ?_|((with_reducible refine dO.store ?_ ?_ _);rotate_left;(focus (first|exact N1)))))
   | false =>
    rw [a5] at RR
    have ap:=uS hy
    obtain ⟨m,hm⟩:∃ m,most.toNat - k=m+1:=⟨most.toNat - k - 1,by omega⟩
    have ad:most.toNat - (k+1)=m:=by omega
    cases hs:(jM y).2 with
    | false =>
     have ea:lK most.toNat x=(y,k):=by rw [AL.out,hm,Km a5 hs];simp
     have EA:=aA ea
     clear ea hm ad
     go_wp2_with fail;refine aK w zB fun K=>?_;refine aK wr zB fun X=>?_;refine (RR).mono ?_;rintro _ U ⟨rfl,A⟩;have a8:Below w w U:=bT K A;have T:=A.size;(try simp at T);have L:=And.intro (hQ A (b:=V)) <| hQ A (b:=w+1);(first|simp [go_sem,z,u,M,E,D] at L|simp [go_sem] at L|skip);(try clear z J I E);(try clear u G F D);obtain ⟨z,u⟩:=L;obtain ⟨J,I,E⟩:=bO z;obtain ⟨G,F,D⟩:=bO u;have N:Below wr wr U:=bT X A;clear A K X
     have ab:=OW.out.below N
     have af:=OL.below N
     have Z:=sQ y (w+1+1) _ _ _ _ U ab tO hy
     rw [hs] at Z
     go_wp2_with fail;refine aK w zB fun K=>?_;refine aK U zB fun X=>?_;refine (Z).mono ?_;rintro _ w6 ⟨⟨u1,u2,u3,u4,rfl,uo⟩,H⟩;have ag:Below w w w6:=bT K H;have a6:=H.size;(try simp at a6);have L:=And.intro (hQ H (b:=V)) <| hQ H (b:=w+1);(first|simp [go_sem,z,u,M,E,D] at L|simp [go_sem] at L|skip);(try clear z J I E);(try clear u G F D);obtain ⟨z,u⟩:=L;obtain ⟨J,I,E⟩:=bO z;obtain ⟨G,F,D⟩:=bO u;have a9:Below U U w6:=bT X H;clear H K X
     have ax:=af.below a9
     obtain ⟨b1,b2,ao,b4,d1,d2,d3,d4,rfl,rfl,rfl,rfl,_⟩:=uo.opens
     go_wp2
     rw [EA.out]
     refine bodyPost_ret (v:=.tuple #[.agg #[y.ch.cap,y.ch.sent,y.ch.got,y.ch.fin,.slice a1 y.ch.cells c1,.slice a2 y.ch.words c2,.slice a3 y.hands c3,.slice a4 y.deals c4,y.now],.int .i64 k]) (by simp [results,results36,go_sem, *]) rfl ⟨⟨_,_,_,_,rfl,?_⟩,by exact zB⟩
     (repeat (first|with_reducible assumption|with_reducible refine dO.alloc ?_ _|with_reducible refine dO.drew ?_|((with_reducible refine dO.store ?_ ?_ _);rotate_left;(focus (first|exact N1)))))
    | true =>
     have ea:lK most.toNat x=((lK (most.toNat - (k+1)) (jM y).1).1,(lK (most.toNat - (k+1)) (jM y).1).2+(k+1)):=by
      rw [AL.out,hm,ad,Nl a5 hs]
      simp
      omega
     have EA:=aA ea
     clear ea hm ad
     go_wp2_with fail;refine aK w zB fun K=>?_;refine aK wr zB fun X=>?_;refine (RR).mono ?_;rintro _ U ⟨rfl,A⟩;have a8:Below w w U:=bT K A;have T:=A.size;(try simp at T);have L:=And.intro (hQ A (b:=V)) <| hQ A (b:=w+1);(first|simp [go_sem,z,u,M,E,D] at L|simp [go_sem] at L|skip);(try clear z J I E);(try clear u G F D);obtain ⟨z,u⟩:=L;obtain ⟨J,I,E⟩:=bO z;obtain ⟨G,F,D⟩:=bO u;have N:Below wr wr U:=bT X A;clear A K X
     have ab:=OW.out.below N
     have b5:=OF.out
     have Z:=sQ y (w+1+1) _ _ _ _ U ab tO hy
     rw [hs] at Z
     generalize (jM y).1=y' at *
     go_wp2_with fail;refine aK w zB fun K=>?_;refine aK U zB fun X=>?_;refine (Z).mono ?_;rintro _ w6 ⟨⟨u1,u2,u3,u4,rfl,uo⟩,H⟩;have ag:Below w w w6:=bT K H;have a6:=H.size;(try simp at a6);have L:=And.intro (hQ H (b:=V)) <| hQ H (b:=w+1);(first|simp [go_sem,z,u,M,E,D] at L|simp [go_sem] at L|skip);(try clear z J I E);(try clear u G F D);obtain ⟨z,u⟩:=L;obtain ⟨J,I,E⟩:=bO z;obtain ⟨G,F,D⟩:=bO u;have a9:Below U U w6:=bT X H;clear H K X
     have an:=dO.offb uo z
     have au:=uo.ne (b:=w+1) tO
     have UO:=aA uo
     obtain ⟨b1,b2,ao,b4,d1,d2,d3,d4,rfl,rfl,rfl,rfl,_⟩:=uo.opens
     have ar:=UO.out.ne' (b:=w6) (Nat.le_refl _)
     have UW:=UO.out
     go_wp2
     go_roundw
     case rel=>exact ⟨k+1,y',_,_,_,_,by omega,by go_num,ap.1,EA.out,by (repeat (first|with_reducible assumption|with_reducible refine dO.alloc ?_ _|with_reducible refine dO.drew ?_|((with_reducible refine dO.store ?_ ?_ _);rotate_left;(focus (first|exact an|exact ar|exact au))))),an,by simp [go_sem, *],by simp [go_sem, *],by simp;omega,by exact zB⟩
     case measure=>simp [intOf];omega
  ·have aq:¬ (k:Int)<most:=by omega
   have ea:lK most.toNat x=(y,k):=by
    have e0:most.toNat - k=0:=by omega
    rw [AL.out,e0]
    simp [lK]
   go_wp2
   (try rw [ea])
   refine bodyPost_ret (v:=.tuple #[.agg #[y.ch.cap,y.ch.sent,y.ch.got,y.ch.fin,.slice a1 y.ch.cells c1,.slice a2 y.ch.words c2,.slice a3 y.hands c3,.slice a4 y.deals c4,y.now],.int .i64 k]) (by simp [results,results36,go_sem, *]) rfl ⟨⟨_,_,_,_,rfl,?_⟩,by exact zB⟩
   (repeat (first|with_reducible assumption|with_reducible refine dO.alloc ?_ _|with_reducible refine dO.drew ?_|((with_reducible refine dO.store ?_ ?_ _);rotate_left;(focus (first|exact N1)))))
end
end Go.Proofs.YtffhjmepfojhnaaGreat
