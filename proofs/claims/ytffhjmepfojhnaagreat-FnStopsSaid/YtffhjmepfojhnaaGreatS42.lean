/-
  The draw of a world in which some things have happened: a right one, of at most 37 words; only the cursor turns; the drawn bytes are at most 4096.
-/
import Derived.Test.YtffhjmepfojhnaaGreatS38
import Derived.Test.YtffhjmepfojhnaaGreatS03
import Derived.Test.YtffhjmepfojhnaaGreatS06
set_option maxRecDepth 100000
set_option maxHeartbeats 4000000
set_option linter.unusedSimpArgs false
set_option linter.unusedVariables false
namespace Go.Proofs.YtffhjmepfojhnaaGreat
open _root_.Go.Proofs.Tryz
open Go.RowKit
attribute [local simp] aP
attribute [local go_sem ↓] aQ aY aZ gK aN
attribute [local go_sem] fF
theorem Er.keep {w w':World} {B g n cap:Nat} {a:Option Addr} (h:Er w B g a n cap) (e:w'.heap[g]?=w.heap[g]?) (k:Below B w w'):Er w' B g a n cap:=by
 obtain ⟨i,h,bs,y,h1,m,q,r,u⟩:=h
 exact ⟨i,h,bs,e.trans y,h1,m,q,r,u.below k⟩
theorem Er.alloc {w:World} {B g n cap:Nat} {a:Option Addr} {o:Obj} (h:Er w B g a n cap):Er (w.alloc o) B g a n cap:=h.keep (Below.heap_alloc w o g h.ds.lt) ((Below.refl _ _).alloc (by have:=h.ds.lt;have:=h.ds.le;omega) o)
theorem Ni (a b:Int) (w:World):Calls prog 186 #[.int .i64 a,.int .i64 b] w fun r w'=>(∃ m,r=.returned (.int .i64 m)∧(m=a∨m=b)∧m≤b)∧w=w':=by
 refine (yQ a b w).mono ?_
 rintro _ _ ⟨rfl,rfl⟩
 refine ⟨⟨_,rfl,?_,?_⟩,rfl⟩ <;> split <;> omega
theorem dO.segs {w:World} {lo:Nat} {a b d e:Option Addr} {p q r s:Nat} {y:Wo} (h:dO w lo (.slice a y.ch.cells p) (.slice b y.ch.words q) (.slice d y.hands r) (.slice e y.deals s) y):fA w w a y.ch.cells∧(a=none→p=0)∧fD w w b y.ch.words∧(b=none→q=0)∧pF w w d y.hands∧(d=none→y.hands.length=0∧r=0)∧pG w w e y.deals∧(e=none→y.deals.length=0∧s=0):=by
 obtain ⟨D,E,F,G,I,J,K,L,m,u,z,A,H⟩:=h.opens
 simp at m u z A
 obtain ⟨rfl,rfl⟩:=m
 obtain ⟨rfl,rfl⟩:=u
 obtain ⟨rfl,rfl⟩:=z
 obtain ⟨rfl,rfl⟩:=A
 exact H
theorem dO.gr {w w':World} {lo g:Nat} {r u z A:Value} {y:Wo} (h:dO w lo r u z A y) (m:Gr g w w') (q:g<lo):dO w' lo r u z A y:=⟨h.1.kept m (.inr (own_ne h.1 q)),h.2.1.kept m (.inr (own_ne h.2.1 q)),h.2.2.1.kept m (.inr (own_ne h.2.2.1 q)),h.2.2.2.kept m (.inr (own_ne h.2.2.2 q))⟩
theorem gB {w W m:World} {g:Nat} (h:Gr g w W) (k:Below W W m):Gr g w m:=gT h ⟨k.os,k.tape,k.output,k.size,fun i q _=>k.block i q⟩
theorem xw {x:Wo} {who most:Int} (q:fK x) (m:cK x who=true) (r:0≤most) (h1:most≤20000):fK (alone x who most).1∧(alone x who most).1.hands.length=x.hands.length∧(alone x who most).1.ch.words.length≤x.ch.words.length+1:=by
 have e:alone x who most=((fV most.toNat x who).1,((fV most.toNat x who).2:Int)):=by simp [alone,(gP x).2 q,m,lu r h1]
 rw [e]
 obtain ⟨u,y,z,_⟩:=Co most.toNat x who q m
 exact ⟨u,y,z⟩
theorem Kl (y:Wo) (who u m:Int) (a b d e:Option Addr) (p q r s lo:Nat) (w:World) (h:dO w lo (.slice a y.ch.cells p) (.slice b y.ch.words q) (.slice d y.hands r) (.slice e y.deals s) y) (z:fK y) :
  Calls prog 132 #[kZ y a b d e p q r s,.int .i64 who,.agg #[.int .i64 u,.int .i64 m]] w fun r w'=>fE w w' (asked y who u m).1 (.int .i64 (asked y who u m).2) r:=by
 obtain ⟨A,G,D,H,E,I,F,J⟩:=h.segs
 obtain ⟨K,L,M,N⟩:=lZ z
 exact FM y who u m a b d e p q r s w A G D H E I F J K L M N
theorem zS (y:Wo) (who most:Int) (a b d e:Option Addr) (p q r s lo:Nat) (w:World) (h:dO w lo (.slice a y.ch.cells p) (.slice b y.ch.words q) (.slice d y.hands r) (.slice e y.deals s) y) (z:fK y) (A:cK y who=true) (m:0≤most) (u:most≤20000) :
  Calls prog 133 #[kZ y a b d e p q r s,.int .i64 who,.int .i64 most] w fun r w'=>fE w w' (alone y who most).1 (.int .i64 (alone y who most).2) r:=by
 obtain ⟨D,H,E,I,F,J,G,K⟩:=h.segs
 obtain ⟨L,M,N,O⟩:=lZ z
 exact Ki y who most a b d e p q r s w D H E I F J G K L M N O ((gP y).2 z) A m u
theorem uQ (y:Wo) (who:Int) (a b d e:Option Addr) (p q r s lo:Nat) (w:World) (h:dO w lo (.slice a y.ch.cells p) (.slice b y.ch.words q) (.slice d y.hands r) (.slice e y.deals s) y) (m:fK y) :
  Calls prog 22 #[kZ y a b d e p q r s,.int .i64 who] w fun r w'=>fE w w' (stopped y who).1 (.bool (stopped y who).2) r:=by
 obtain ⟨u,E,z,F,A,G,D,H⟩:=h.segs
 obtain ⟨I,J,K,L⟩:=lZ m
 exact sF y who a b d e p q r s w u E z F A G D H I J K L
def Qe (w':World) (lo:Nat) (P:Wo→Prop) (r:Ending):Prop:=∃ x v1 v2 v3 v4,r=.returned (.agg #[x.ch.cap,x.ch.sent,x.ch.got,x.ch.fin,v1,v2,v3,v4,x.now])∧dO w' lo v1 v2 v3 v4 x∧P x
theorem uR (B g:Nat) (w:World) (hd:DS w B g):Calls prog 163 #[.pointer (some ⟨g,0,none⟩)] w fun r w'=>Qe w' w (fun x=>fK x∧x.ch.words.length≤37∧Wn x.ch) r∧DS w' B g∧Gr g w w':=by
 have hl:=hd.lt
 have da:=hd.le
 go_enter func163,ntmps163
 have bu:some w.heap.size≠some g:=by simp;omega
 go_wp2_with fail;refine (eG B g 3  _ zD  tO tO).mono ?_;rintro _ w1 ⟨⟨x1,rfl,b7,ct⟩,bm,ag⟩;have cg:Gr g w w1:=gT lh ag;have ck:=bm.lt;have an:=ag.size;(try (simp at an))
 have an:=ag.size;(try (simp at an));have J:=bE ag (b:=w) tS (by assumption);(try simp [go_sem] at J);(try clear u I H E);have u:=J;clear J;obtain ⟨I,H,E⟩:=bO u
 go_wp2_with fail;refine (eG B g 4  _ zD  tO tO).mono ?_;rintro _ w2 ⟨⟨x2,rfl,cu,cv⟩,az,ah⟩;have bg:Gr g w w2:=gT lh ah;have cl:=az.lt;have ao:=ah.size;(try (simp at ao))
 have ao:=ah.size;(try (simp at ao));have J:=bE ah (b:=w) tS (by assumption);(first|simp [go_sem,u,E] at J|simp [go_sem] at J|skip);(try clear u I H E);have u:=J;clear J;obtain ⟨I,H,E⟩:=bO u
 obtain ⟨nt,nr,nl,nw⟩:=yU (cap:=x1) (tasks:=1+x2) b7 tO tO tO
 have nN:=PR (cap:=x1) (tasks:=1+x2) b7 tO tO tO
 have bh:=yx x1 (1+x2) w2 b7 tO tO tO
 rw [nt] at bh
 have HN:=aA (And.intro nr (And.intro nl (And.intro nw nN)))
 generalize (fQ x1 (1+x2)).1=x at *
 clear nt nr nl nw nN
 go_wp2_with fail;refine aK w2 zB fun bk=>?_;refine (bh).mono ?_;rintro _ M ⟨⟨v1,v2,v3,v4,rfl,a5⟩,af⟩;have br:=af.size;(try simp at br);have J:=hQ af (b:=w);(first|simp [go_sem,u,E] at J|simp [go_sem] at J|skip);(try clear u I H E);have u:=J;clear J;obtain ⟨I,H,E⟩:=bO u;have X:Below w2 w2 M:=bT bk af;clear af bk
 have bj:=az.below X
 have d0:Gr g w M:=gT bg ⟨X.os,X.tape,X.output,X.size,fun i hi _=>X.block i hi⟩
 have UO:=aA a5
 obtain ⟨a1,a2,a3,a4,c1,c2,c3,c4,rfl,rfl,rfl,rfl,_⟩:=a5.opens
 obtain ⟨ca,cn,cc,bo⟩:=bj.dsx
 obtain ⟨cb,d6⟩:=bo.cell0
 have df:g<M.heap.size:=bj.lt
 go_wp2_with fail
 have aw:some M.heap.size≠some g:=by simp;omega
 have F:∀ o,(M.alloc (.cells #[x.ch.cap,x.ch.sent,x.ch.got,x.ch.fin,.slice a1 x.ch.cells c1,.slice a2 x.ch.words c2,.slice a3 x.hands c3,.slice a4 x.deals c4,x.now] 35)).cell? ⟨M,o,none⟩=_:=fun o=>cell_of_row _ M o _ _ _ (heap_alloc_new M _)
 go_region_held3 (fun w'=>w'.cell? ⟨g,0,none⟩=some (.slice ca cn cc))
  (first|(simp [*,go_sem]))
  (first|(go_at_call 66;refine (yP B g cn cc ca 30 _ ?_ ?_ ?_).mono ?_;rotate_left;(focus omega);(focus omega);rotate_left;(focus (exact bo.alloc));rintro _ w4 ⟨⟨x4,rfl,cw,cx⟩,bl,ad⟩;have k4:=bl.cell0.1;have bv:Gr g w w4:=gT lh ad)|(go_at_call 186;refine (Ni _ _ _).mono ?_;rintro _ _ ⟨⟨N,rfl,bz,c6⟩,rfl⟩))
 have hN:0≤N∧N≤37:=by
  have i1:IntKind.i64.wrap (3+(cn:Int))=3+cn:=IntWalk.i64_in _ tO
  have i2:IntKind.i64.wrap (8+x4)=8+x4:=IntWalk.i64_in _ tO
  omega
 clear bz c6
 have ce:=ad.size
 simp at ce
 have cr:=fun o=>sW ad (b:=M) (by simp) aw o
 have bt:=ad.size;(try (simp at bt));have J:=bE ad (b:=w) tS (by assumption);(first|simp [go_sem,u,E] at J|simp [go_sem] at J|skip);(try clear u I H E);have u:=J;clear J;obtain ⟨I,H,E⟩:=bO u
 go_wp2_with fail
 go_loopw [5] (fun n wr=>∃ (m:Nat) (y:Wo) (v1 v2 v3 v4:Value),n=.int .i64 m∧fK y∧Wn y.ch∧y.ch.words.length+m≤37∧dO wr (w+1) v1 v2 v3 v4 y∧Bz M v1 v2 v3 v4∧hp wr M=some (.cells #[y.ch.cap,y.ch.sent,y.ch.got,y.ch.fin,v1,v2,v3,v4,y.now] 35)∧hp wr w=some (.cells #[.int .i64 0,.int .i64 0,.int .i64 0,.int .i64 0,.slice none 0 0,.slice none 0 0,.slice none 0 0,.slice none 0 0,.int .i64 0] 35)∧M+1≤wr.heap.size∧DS wr B g∧Gr g w wr) (fun n _=>(intOf n).toNat)
 case atStart =>
  obtain ⟨nr,nl,nw,nN⟩:=HN.out
  have uu:=UO.out
  have u3:=dO.lo (lo':=w+1) uu tO
  have am:g<w.heap.size+1:=by omega
  have u4:=dO.gr (dO.drew (dO.alloc u3 _)) ad am
  have u5:=u3.ne' (Nat.le_refl _)
  refine ⟨N.toNat,x,_,_,_,_,by simp;omega,nr,nN,by omega,u4,u5,(bE ad (by simp) aw).trans (heap_alloc_new M _),u,by omega,bl.ds,bv⟩
 case round =>
  clear u I H E
  obtain ⟨m,y,v1,v2,v3,v4,rfl,hy,hN,hw,a5,cq,q,u,dc,hd,hG⟩:=hrel
  have E:w<wr.heap.size:=by omega
  have dd:w<M.heap.size:=by omega
  have D:M<wr.heap.size:=by omega
  have I:∀ o,wr.cell? ⟨w,o,none⟩=_:=fun o=>cell_of_row wr w o _ _ _ u
  have H:∀ o,wr.frozen? ⟨w,o,none⟩=false:=dH u
  have G:∀ o,wr.frozen? ⟨M,o,none⟩=false:=dH q
  obtain ⟨a1,a2,a3,a4,c1,c2,c3,c4,rfl,rfl,rfl,rfl,_⟩:=a5.opens
  have F:∀ o,wr.cell? ⟨M,o,none⟩=_:=fun o=>cell_of_row wr M o _ _ _ q
  have OW:=aA a5
  have h1:=hy.h1
  have h6:=hy.h6
  clear a5
  by_cases hm:m=0
  ·have c9:¬ (0:Int)<(m:Int):=by omega
   go_wp2
   have OL:=OW.out.lo (lo':=w) tO
   have N1:=OW.out.ne (b:=w) tO
   refine bodyPost_ret (v:=.agg #[y.ch.cap,y.ch.sent,y.ch.got,y.ch.fin,.slice a1 y.ch.cells c1,.slice a2 y.ch.words c2,.slice a3 y.hands c3,.slice a4 y.deals c4,y.now]) (by simp [results,results163,go_sem, *]) rfl ⟨⟨_,_,_,_,_,rfl,?_,hy,by omega,hN⟩,?_,?_⟩
   ·(repeat (first|with_reducible assumption|with_reducible refine dO.alloc ?_ _|with_reducible refine dO.drew ?_|((with_reducible refine dO.store ?_ ?_ _);rotate_left;(focus (first|exact N1))) ))
   ·exact zD
   ·exact lh
  ·have c9:(0:Int)<(m:Int):=by omega
   go_wp2_with fail;refine (eG B g (y.hands.length:Int)  _ zD  tO tO).mono ?_;rintro _ w5 ⟨⟨z,rfl,cf,de⟩,b0,Y⟩;have ci:Gr g w w5:=gT lh Y;have cm:=b0.lt;have ap:=Y.size;(try (simp at ap))
   obtain ⟨i,rfl⟩:=Int.eq_ofNat_of_zero_le cf
   have hi:i<y.hands.length:=by omega
   have d8:(i:Int)<(y.hands.length:Int):=by omega
   have ht:cK y i=true:=by simp [cK,eH,dA];omega
   have ap:=Y.size;(try (simp at ap));have J:=And.intro (bE Y (b:=M) tS (by assumption)) <| bE Y (b:=w) tS (by assumption);(first|simp [go_sem,q,u,E,D] at J|simp [go_sem] at J|skip);(try clear q F G D);(try clear u I H E);obtain ⟨q,u⟩:=J;obtain ⟨F,G,D⟩:=bO q;obtain ⟨I,H,E⟩:=bO u
   have b5:=OW.out.gr Y tO
   obtain ⟨gh,gq,eg,_,lg,bp,_⟩:=cO.open1 b5.2.2.1 hi
   simp at eg
   obtain ⟨rfl,rfl⟩:=eg
   have be:w5.cell? ⟨gh,i*14,none⟩=some (.int .i64 (aL y i).pos):=(bp 0 tO).trans (by simp [aL,aB,Array.getD])
   clear bp
   by_cases cd:(aL y i).pos=0
   ·go_wp2_with fail
    have d9:=b0.lt
    go_region_with (first|(go_at_call 165;refine (vN B g _ zD).mono ?_;rintro _ w6 ⟨⟨kk,ee,rfl,_⟩,c7,al⟩;have bw:Gr g w w6:=gT lh al;have aa:=al.size;(try (simp at aa));have J:=And.intro (bE al (b:=M) tS (by assumption)) <| bE al (b:=w) tS (by assumption);(first|simp [go_sem,q,u,E,D] at J|simp [go_sem] at J|skip);(try clear q F G D);(try clear u I H E);obtain ⟨q,u⟩:=J;obtain ⟨F,G,D⟩:=bO q;obtain ⟨I,H,E⟩:=bO u;have b6:=dO.gr (dO.drew b5) al tO)|(go_at_call 132;refine aK w6 zB fun bk=>?_;refine (Kl y i kk ee a1 a2 (some ⟨gh,0,none⟩) a4 c1 c2 c3 c4 _ _ b6 hy).mono ?_;rintro _ w7 ⟨⟨u1,u2,u3,u4,rfl,uo⟩,a8⟩;have ab:=a8.size;(try simp at ab);have J:=And.intro (hQ a8 (b:=M)) <| hQ a8 (b:=w);(first|simp [go_sem,q,u,E,D] at J|simp [go_sem] at J|skip);(try clear q F G D);(try clear u I H E);obtain ⟨q,u⟩:=J;obtain ⟨F,G,D⟩:=bO q;obtain ⟨I,H,E⟩:=bO u;have ay:Below w6 w6 w7:=bT bk a8;clear a8 bk);have d7:=c7.below ay;have d5:=gB bw ay;have UU:=aA uo;obtain ⟨b1,b2,b3,b4,d1,d2,d3,d4,rfl,rfl,rfl,rfl,_⟩:=uo.opens)
    all_goals (go_wp2;go_roundw)
    all_goals first|(simp [intOf];omega;done)|skip
    all_goals (have A:=Cq (k:=kk) (e:=ee) hy ht;have ac:=UU.out.ne (b:=M) tO;have UL:=UU.out.lo (lo':=w+1) tO;generalize (asked y i kk ee).1=O at *)
    all_goals exact ⟨m - 1,O,_,_,_,_,by go_num,A.1,by rw [A.2.2];exact hN,by rw [A.2.2];omega,by (repeat (first|with_reducible assumption|with_reducible refine dO.alloc ?_ _|with_reducible refine dO.drew ?_|((with_reducible refine dO.store ?_ ?_ _);rotate_left;(focus (first|exact ac))) )),ac,by simp [go_sem, *],by simp [go_sem, *],by simp;omega,by exact zD,by exact lh⟩
   ·have db:((aL y i).pos == 0)=false:=by simp [cd]
    go_wp2_with fail;refine (eG B g 4  _ zD  tO tO).mono ?_;rintro _ w6 ⟨⟨x6,rfl,cy,cz⟩,bn,Z⟩;have cj:Gr g w w6:=gT lh Z;have co:=bn.lt;have aa:=Z.size;(try (simp at aa))
    have aa:=Z.size;(try (simp at aa));have J:=And.intro (bE Z (b:=M) tS (by assumption)) <| bE Z (b:=w) tS (by assumption);(first|simp [go_sem,q,u,E,D] at J|simp [go_sem] at J|skip);(try clear q F G D);(try clear u I H E);obtain ⟨q,u⟩:=J;obtain ⟨F,G,D⟩:=bO q;obtain ⟨I,H,E⟩:=bO u
    have b6:=b5.gr Z tO
    go_wp2_with fail;refine (iL B g 3  _ zD  tO tO).mono ?_;rintro _ w7 ⟨⟨y7,rfl⟩,ak,a0⟩;have ax:Gr g w w7:=gT lh a0;have cp:=ak.lt;have ab:=a0.size;(try (simp at ab))
    have ab:=a0.size;(try (simp at ab));have J:=And.intro (bE a0 (b:=M) tS (by assumption)) <| bE a0 (b:=w) tS (by assumption);(first|simp [go_sem,q,u,E,D] at J|simp [go_sem] at J|skip);(try clear q F G D);(try clear u I H E);obtain ⟨q,u⟩:=J;obtain ⟨F,G,D⟩:=bO q;obtain ⟨I,H,E⟩:=bO u
    have bc:=b6.gr a0 tO
    clear be lg
    cases y7
    ·go_wp2_with fail;refine aK w7 zB fun bk=>?_;refine (zS y i (1+x6) a1 a2 (some ⟨gh,0,none⟩) a4 c1 c2 c3 c4 _ _ bc hy ht tO tO).mono ?_;rintro _ w8 ⟨⟨u1,u2,u3,u4,rfl,uo⟩,R⟩;have aq:=R.size;(try simp at aq);have J:=And.intro (hQ R (b:=M)) <| hQ R (b:=w);(first|simp [go_sem,q,u,E,D] at J|simp [go_sem] at J|skip);(try clear q F G D);(try clear u I H E);obtain ⟨q,u⟩:=J;obtain ⟨F,G,D⟩:=bO q;obtain ⟨I,H,E⟩:=bO u;have a7:Below w7 w7 w8:=bT bk R;clear R bk
     have c8:=ak.below a7
     have bx:=gB ax a7
     have A:=xw (most:=(1+x6)) hy ht tO tO
     have AN:=Cz (most:=(1+x6)) hy ht tO tO hN
     have UU:=aA uo
     have au:cK (alone y i (1+x6)).1 i=true:=by unfold cK at ht ⊢;rw [A.2.1];exact ht
     obtain ⟨ya,yb,yc⟩:=A
     generalize (alone y i (1+x6)).1=O at *
     obtain ⟨b1,b2,b3,b4,d1,d2,d3,d4,rfl,rfl,rfl,rfl,_⟩:=uo.opens
     have ac:=UU.out.ne (b:=M) tO
     have UL:=UU.out.lo (lo':=w+1) tO
     clear yb
     go_wp2_with fail;refine (iL B g 10  _ zD  tO tO).mono ?_;rintro _ T ⟨⟨y9,rfl⟩,a9,L⟩;have aj:Gr g w T:=gT lh L;have bq:=a9.lt;have ar:=L.size;(try (simp at ar))
     have am:g<w.heap.size+1:=by omega
     have ai:dO T (w+1) (.slice b1 O.ch.cells d1) (.slice b2 O.ch.words d2) (.slice b3 O.hands d3) (.slice b4 O.deals d4) O:=dO.gr (by (repeat (first|with_reducible assumption|with_reducible refine dO.alloc ?_ _|with_reducible refine dO.drew ?_|((with_reducible refine dO.store ?_ ?_ _);rotate_left;(focus (first|exact ac))) ))) L am
     have U:hp T M=some (.cells #[O.ch.cap,O.ch.sent,O.ch.got,O.ch.fin,.slice b1 O.ch.cells d1,.slice b2 O.ch.words d2,.slice b3 O.hands d3,.slice b4 O.deals d4,O.now] 35):=(bE L (by simp;omega) aw).trans tY
     have a6:hp T w=some (.cells #[.int .i64 0,.int .i64 0,.int .i64 0,.int .i64 0,.slice none 0 0,.slice none 0 0,.slice none 0 0,.slice none 0 0,.int .i64 0] 35):=(bE L (by simp;omega) bu).trans tY
     have b9:=L.size
     (try simp at b9)
     clear I F H G u q E D
     have E:w<T.heap.size:=by omega
     have D:M<T.heap.size:=by omega
     have I:∀ o,T.cell? ⟨w,o,none⟩=_:=fun o=>cell_of_row T w o _ _ _ a6
     have F:∀ o,T.cell? ⟨M,o,none⟩=_:=fun o=>cell_of_row T M o _ _ _ U
     have H:∀ o,T.frozen? ⟨w,o,none⟩=false:=dH a6
     have G:∀ o,T.frozen? ⟨M,o,none⟩=false:=dH U
     have u:=a6
     have q:=U
     clear a6 U L
     cases y9
     ·go_wp2
      go_roundw
      case rel=>exact ⟨m - 1,O,_,_,_,_,by go_num,ya,AN,by omega,ai,ac,q,u,by omega,by exact zD,by exact lh⟩
      case measure=>simp [intOf];omega
     ·obtain ⟨e1,_,e3⟩:=nJ ya au
      have SN:=vV ya au AN
      have yd:(stopped O i).1.ch.words.length+(m - 1)≤37:=by omega
      have b8:=uQ O i b1 b2 b3 b4 d1 d2 d3 d4 _ _ ai ya
      clear e3
      generalize (stopped O i).1=bb at *
      go_wp2_with fail;refine aK T zB fun bk=>?_;refine (b8).mono ?_;rintro _ ba ⟨⟨q1,q2,q3,q4,rfl,qo⟩,K⟩;have ae:=K.size;(try simp at ae);have J:=And.intro (hQ K (b:=M)) <| hQ K (b:=w);(first|simp [go_sem,q,u,E,D] at J|simp [go_sem] at J|skip);(try clear q F G D);(try clear u I H E);obtain ⟨q,u⟩:=J;obtain ⟨F,G,D⟩:=bO q;obtain ⟨I,H,E⟩:=bO u;have V:Below T T ba:=bT bk K;clear K bk
      have bi:=a9.below V
      have bf:=gB aj V
      have QO:=aA qo
      obtain ⟨p1,p2,p3,p4,r1,r2,r3,r4,rfl,rfl,rfl,rfl,_⟩:=qo.opens
      have av:=QO.out.ne (b:=M) tO
      have QL:=QO.out.lo (lo':=w+1) tO
      go_wp2
      go_roundw
      case rel=>exact ⟨m - 1,bb,_,_,_,_,by go_num,e1,SN,yd,by (repeat (first|with_reducible assumption|with_reducible refine dO.alloc ?_ _|with_reducible refine dO.drew ?_|((with_reducible refine dO.store ?_ ?_ _);rotate_left;(focus (first|exact av))) )),av,by simp [go_sem, *],by simp [go_sem, *],by simp;omega,by exact zD,by exact lh⟩
      case measure=>simp [intOf];omega
    ·go_wp2_with fail;refine aK w7 zB fun bk=>?_;refine (zS y i 30 a1 a2 (some ⟨gh,0,none⟩) a4 c1 c2 c3 c4 _ _ bc hy ht tO tO).mono ?_;rintro _ w8 ⟨⟨u1,u2,u3,u4,rfl,uo⟩,R⟩;have aq:=R.size;(try simp at aq);have J:=And.intro (hQ R (b:=M)) <| hQ R (b:=w);(first|simp [go_sem,q,u,E,D] at J|simp [go_sem] at J|skip);(try clear q F G D);(try clear u I H E);obtain ⟨q,u⟩:=J;obtain ⟨F,G,D⟩:=bO q;obtain ⟨I,H,E⟩:=bO u;have a7:Below w7 w7 w8:=bT bk R;clear R bk
     have c8:=ak.below a7
     have bx:=gB ax a7
     have A:=xw (most:=30) hy ht tO tO
     have AN:=Cz (most:=30) hy ht tO tO hN
     have UU:=aA uo
     have au:cK (alone y i 30).1 i=true:=by unfold cK at ht ⊢;rw [A.2.1];exact ht
     obtain ⟨ya,yb,yc⟩:=A
     generalize (alone y i 30).1=O at *
     obtain ⟨b1,b2,b3,b4,d1,d2,d3,d4,rfl,rfl,rfl,rfl,_⟩:=uo.opens
     have ac:=UU.out.ne (b:=M) tO
     have UL:=UU.out.lo (lo':=w+1) tO
     clear yb
     go_wp2_with fail;refine (iL B g 10  _ zD  tO tO).mono ?_;rintro _ T ⟨⟨y9,rfl⟩,a9,L⟩;have aj:Gr g w T:=gT lh L;have bq:=a9.lt;have ar:=L.size;(try (simp at ar))
     have am:g<w.heap.size+1:=by omega
     have ai:dO T (w+1) (.slice b1 O.ch.cells d1) (.slice b2 O.ch.words d2) (.slice b3 O.hands d3) (.slice b4 O.deals d4) O:=dO.gr (by (repeat (first|with_reducible assumption|with_reducible refine dO.alloc ?_ _|with_reducible refine dO.drew ?_|((with_reducible refine dO.store ?_ ?_ _);rotate_left;(focus (first|exact ac))) ))) L am
     have U:hp T M=some (.cells #[O.ch.cap,O.ch.sent,O.ch.got,O.ch.fin,.slice b1 O.ch.cells d1,.slice b2 O.ch.words d2,.slice b3 O.hands d3,.slice b4 O.deals d4,O.now] 35):=(bE L (by simp;omega) aw).trans tY
     have a6:hp T w=some (.cells #[.int .i64 0,.int .i64 0,.int .i64 0,.int .i64 0,.slice none 0 0,.slice none 0 0,.slice none 0 0,.slice none 0 0,.int .i64 0] 35):=(bE L (by simp;omega) bu).trans tY
     have b9:=L.size
     (try simp at b9)
     clear I F H G u q E D
     have E:w<T.heap.size:=by omega
     have D:M<T.heap.size:=by omega
     have I:∀ o,T.cell? ⟨w,o,none⟩=_:=fun o=>cell_of_row T w o _ _ _ a6
     have F:∀ o,T.cell? ⟨M,o,none⟩=_:=fun o=>cell_of_row T M o _ _ _ U
     have H:∀ o,T.frozen? ⟨w,o,none⟩=false:=dH a6
     have G:∀ o,T.frozen? ⟨M,o,none⟩=false:=dH U
     have u:=a6
     have q:=U
     clear a6 U L
     cases y9
     ·go_wp2
      go_roundw
      case rel=>exact ⟨m - 1,O,_,_,_,_,by go_num,ya,AN,by omega,ai,ac,q,u,by omega,by exact zD,by exact lh⟩
      case measure=>simp [intOf];omega
     ·obtain ⟨e1,_,e3⟩:=nJ ya au
      have SN:=vV ya au AN
      have yd:(stopped O i).1.ch.words.length+(m - 1)≤37:=by omega
      have b8:=uQ O i b1 b2 b3 b4 d1 d2 d3 d4 _ _ ai ya
      clear e3
      generalize (stopped O i).1=bb at *
      go_wp2_with fail;refine aK T zB fun bk=>?_;refine (b8).mono ?_;rintro _ ba ⟨⟨q1,q2,q3,q4,rfl,qo⟩,K⟩;have ae:=K.size;(try simp at ae);have J:=And.intro (hQ K (b:=M)) <| hQ K (b:=w);(first|simp [go_sem,q,u,E,D] at J|simp [go_sem] at J|skip);(try clear q F G D);(try clear u I H E);obtain ⟨q,u⟩:=J;obtain ⟨F,G,D⟩:=bO q;obtain ⟨I,H,E⟩:=bO u;have V:Below T T ba:=bT bk K;clear K bk
      have bi:=a9.below V
      have bf:=gB aj V
      have QO:=aA qo
      obtain ⟨p1,p2,p3,p4,r1,r2,r3,r4,rfl,rfl,rfl,rfl,_⟩:=qo.opens
      have av:=QO.out.ne (b:=M) tO
      have QL:=QO.out.lo (lo':=w+1) tO
      go_wp2
      go_roundw
      case rel=>exact ⟨m - 1,bb,_,_,_,_,by go_num,e1,SN,yd,by (repeat (first|with_reducible assumption|with_reducible refine dO.alloc ?_ _|with_reducible refine dO.drew ?_|((with_reducible refine dO.store ?_ ?_ _);rotate_left;(focus (first|exact av))) )),av,by simp [go_sem, *],by simp [go_sem, *],by simp;omega,by exact zD,by exact lh⟩
      case measure=>simp [intOf];omega
end Go.Proofs.YtffhjmepfojhnaaGreat
