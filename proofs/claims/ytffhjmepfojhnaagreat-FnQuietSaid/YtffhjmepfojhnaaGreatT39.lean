/-
  The draw of a world in which some things have happened: a right one, of at most 37 words; only the cursor turns; the drawn bytes are at most 4096.
-/
import Derived.Test.YtffhjmepfojhnaaGreatT38
import Derived.Test.YtffhjmepfojhnaaGreatT04
import Derived.Test.YtffhjmepfojhnaaGreatT05
set_option maxRecDepth 100000
set_option maxHeartbeats 4000000
set_option linter.unusedSimpArgs false
set_option linter.unusedVariables false
namespace Go.Proofs.YtffhjmepfojhnaaGreat
open _root_.Go.Proofs.Tryz
open Go.RowKit
attribute [local simp] dz
attribute [local go_sem ↓] dA dO dP jv bK
attribute [local go_sem] iG
theorem Io.keep {w w':World} {B g n cap:Nat} {a:Option Addr} (h:Io w B g a n cap) (e:w'.heap[g]?=w.heap[g]?) (k:Below B w w'):Io w' B g a n cap:=by
 obtain ⟨i,h,bs,H,h1,h2,h3,F,G⟩:=h;exact ⟨i,h,bs,e.trans H,h1,h2,h3,F,G.below k⟩
theorem Io.alloc {w:World} {B g n cap:Nat} {a:Option Addr} {o:Obj} (h:Io w B g a n cap):Io (w.alloc o) B g a n cap:=h.keep (Below.heap_alloc w o g h.ds.lt) ((Below.refl _ _).alloc (by have:=h.ds.lt;have:=h.ds.le;omega) o)
theorem QJ (a b:Int) (w:World):Calls prog 186 #[.int .i64 a,.int .i64 b] w fun r w'=>(∃ m,r=.returned (.int .i64 m)∧(m=a∨m=b)∧m≤b)∧w=w':=by
 refine (Da a b w).mono ?_;rintro _ _ ⟨rfl,rfl⟩;refine ⟨⟨_,rfl,?_,?_⟩,rfl⟩ <;> split <;> omega
theorem dG.segs {w:World} {lo:Nat} {a b d e:Option Addr} {p q r s:Nat} {y:Wo} (h:dG w lo (.slice a y.ch.cells p) (.slice b y.ch.words q) (.slice d y.hands r) (.slice e y.deals s) y):gG w w a y.ch.cells∧(a=none→p=0)∧gI w w b y.ch.words∧(b=none→q=0)∧qX w w d y.hands∧(d=none→y.hands.length=0∧r=0)∧uh w w e y.deals∧(e=none→y.deals.length=0∧s=0):=by
 obtain ⟨K,L,M,N,O,R,T,U,F,G,I,J,H⟩:=h.opens;simp at F G I J;obtain ⟨rfl,rfl⟩:=F;obtain ⟨rfl,rfl⟩:=G;obtain ⟨rfl,rfl⟩:=I;obtain ⟨rfl,rfl⟩:=J;exact H
theorem dG.gr {w w':World} {lo g:Nat} {v1 v2 v3 v4:Value} {y:Wo} (h:dG w lo v1 v2 v3 v4 y) (F:Gr g w w') (G:g<lo):dG w' lo v1 v2 v3 v4 y:=⟨h.1.kept F (.inr (own_ne h.1 G)),h.2.1.kept F (.inr (own_ne h.2.1 G)),h.2.2.1.kept F (.inr (own_ne h.2.2.1 G)),h.2.2.2.kept F (.inr (own_ne h.2.2.2 G))⟩
theorem gB {w W F:World} {g:Nat} (h:Gr g w W) (k:Below W W F):Gr g w F:=gT h ⟨k.os,k.tape,k.output,k.size,fun i G _=>k.block i G⟩
theorem BB {x:Wo} {who most:Int} (F:eP x) (ht:bW x who=true) (G:0≤most) (h1:most≤20000):eP (alone x who most).1∧(alone x who most).1.hands.length=x.hands.length∧(alone x who most).1.ch.words.length≤x.ch.words.length+1:=by
 have e:alone x who most=((gz most.toNat x who).1,((gz most.toNat x who).2:Int)):=by simp [alone,(eZ x).2 F,ht,lF G h1]
 rw [e];obtain ⟨H,I,J,_⟩:=FR most.toNat x who F ht;exact ⟨H,I,J⟩
theorem Dy (y:Wo) (who F ee:Int) (a b d e:Option Addr) (p q r s lo:Nat) (w:World) (h:dG w lo (.slice a y.ch.cells p) (.slice b y.ch.words q) (.slice d y.hands r) (.slice e y.deals s) y) (G:eP y) :
  Calls prog 132 #[oI y a b d e p q r s,.int .i64 who,.agg #[.int .i64 F,.int .i64 ee]] w fun r w'=>ig w w' (asked y who F ee).1 (.int .i64 (asked y who F ee).2) r:=by
 obtain ⟨H,t1,I,t2,J,L,K,M⟩:=h.segs;obtain ⟨N,O,R,T⟩:=iX G;exact JK y who F ee a b d e p q r s w H t1 I t2 J L K M N O R T
theorem xZ (y:Wo) (who most:Int) (a b d e:Option Addr) (p q r s lo:Nat) (w:World) (h:dG w lo (.slice a y.ch.cells p) (.slice b y.ch.words q) (.slice d y.hands r) (.slice e y.deals s) y) (H:eP y) (ht:bW y who=true) (F:0≤most) (G:most≤20000) :
  Calls prog 133 #[oI y a b d e p q r s,.int .i64 who,.int .i64 most] w fun r w'=>ig w w' (alone y who most).1 (.int .i64 (alone y who most).2) r:=by
 obtain ⟨I,t1,J,t2,K,M,L,N⟩:=h.segs;obtain ⟨O,R,T,U⟩:=iX H;exact NK y who most a b d e p q r s w I t1 J t2 K M L N O R T U ((eZ y).2 H) ht F G
theorem yx (y:Wo) (who:Int) (a b d e:Option Addr) (p q r s lo:Nat) (w:World) (h:dG w lo (.slice a y.ch.cells p) (.slice b y.ch.words q) (.slice d y.hands r) (.slice e y.deals s) y) (F:eP y) :
  Calls prog 22 #[oI y a b d e p q r s,.int .i64 who] w fun r w'=>ig w w' (stopped y who).1 (.bool (stopped y who).2) r:=by
 obtain ⟨G,t1,H,t2,I,K,J,L⟩:=h.segs;obtain ⟨M,N,O,R⟩:=iX F;exact Eb y who a b d e p q r s w G t1 H t2 I K J L M N O R
def Vt (w':World) (lo:Nat) (P:Wo→Prop) (r:Ending):Prop:=∃ x v1 v2 v3 v4,r=.returned (.agg #[x.ch.cap,x.ch.sent,x.ch.got,x.ch.fin,v1,v2,v3,v4,x.now])∧dG w' lo v1 v2 v3 v4 x∧P x
theorem yV (B g:Nat) (w:World) (hd:DS w B g):Calls prog 163 #[.pointer (some ⟨g,0,none⟩)] w fun r w'=>Vt w' w (fun x=>eP x∧x.ch.words.length≤37∧Wn x.ch) r∧DS w' B g∧Gr g w w':=by
 have hl:=hd.lt;have c6:=hd.le;go_enter func163,ntmps163;have WV:some w.heap.size≠some g:=by simp;omega
 go_wp2_with fail;refine (fJ B g 3  _ zD  tO tO).mono ?_;rintro _ w1 ⟨⟨x1,rfl,ae,bj⟩,al,V⟩;have b8:Gr g w w1:=gT lY V;have bb:=al.lt;have a0:=V.size;(try (simp at a0))
 have a0:=V.size;(try (simp at a0));have zz:=bM V (b:=w) tS dM;(try simp [go_sem] at zz);(try clear kW sU sV oz);have kW:=zz;clear zz;obtain ⟨sU,sV,oz⟩:=bO kW;go_wp2_with fail;refine (fJ B g 4  _ zD  tO tO).mono ?_;rintro _ w2 ⟨⟨x2,rfl,bl,bm⟩,aa,X⟩;have ah:Gr g w w2:=gT lY X;have bc:=aa.lt;have a5:=X.size;(try (simp at a5));have a5:=X.size;(try (simp at a5));have zz:=bM X (b:=w) tS dM;(first|simp [go_sem,kW,oz] at zz|simp [go_sem] at zz|skip);(try clear kW sU sV oz);have kW:=zz;clear zz;obtain ⟨sU,sV,oz⟩:=bO kW
 obtain ⟨nt,nr,nl,nw⟩:=uT (cap:=x1) (tasks:=1+x2) ae tO tO tO;have nN:=Vh (cap:=x1) (tasks:=1+x2) ae tO tO tO;have ai:=vO x1 (1+x2) w2 ae tO tO tO;rw [nt] at ai;have HN:=aA (And.intro nr (And.intro nl (And.intro nw nN)));generalize (dS x1 (1+x2)).1=x at *;clear nt nr nl nw nN;go_wp2_with fail;refine aK w2 zB fun bk=>?_;refine (ai).mono ?_;rintro _ w3 ⟨⟨v1,v2,v3,v4,rfl,K⟩,U⟩;have ap:=U.size;(try simp at ap);have zz:=hQ U (b:=w);(first|simp [go_sem,kW,oz] at zz|simp [go_sem] at zz|skip);(try clear kW sU sV oz);have kW:=zz;clear zz;obtain ⟨sU,sV,oz⟩:=bO kW;have G:Below w2 w2 w3:=bT bk U;clear U bk
 have aj:=aa.below G;have br:Gr g w w3:=gT ah ⟨G.os,G.tape,G.output,G.size,fun i hi _=>G.block i hi⟩;have UO:=aA K;obtain ⟨a1,a2,a3,a4,c1,c2,c3,c4,rfl,rfl,rfl,rfl,_⟩:=K.opens;obtain ⟨ca,cn,cc,an⟩:=aj.dsx;obtain ⟨cb,bu⟩:=an.cell0;have ce:g<w3.heap.size:=aj.lt;go_wp2_with fail;have Wi:some w3.heap.size≠some g:=by simp;omega
 have qY:∀ o,(w3.alloc (.cells #[x.ch.cap,x.ch.sent,x.ch.got,x.ch.fin,.slice a1 x.ch.cells c1,.slice a2 x.ch.words c2,.slice a3 x.hands c3,.slice a4 x.deals c4,x.now] 35)).cell? ⟨w3,o,none⟩=_:=fun o=>cell_of_row _ w3 o _ _ _ (heap_alloc_new w3 _)
 go_region_held3 (fun w'=>w'.cell? ⟨g,0,none⟩=some (.slice ca cn cc))
  (first|(simp [*,go_sem]))
  (first|(go_at_call 66;refine (CZ B g cn cc ca 30 _ ?_ ?_ ?_).mono ?_;rotate_left;(focus omega);(focus omega);rotate_left;(focus (exact an.alloc));rintro _ w4 ⟨⟨x4,rfl,bn,bo⟩,ak,T⟩;have k4:=ak.cell0.1;have ar:Gr g w w4:=gT lY T)|(go_at_call 186;refine (QJ _ _ _).mono ?_;rintro _ _ ⟨⟨N,rfl,aw,ax⟩,rfl⟩))
 have hN:0≤N∧N≤37:=by
  have i1:IntKind.i64.wrap (3+(cn:Int))=3+cn:=IntWalk.i64_in _ tO;have i2:IntKind.i64.wrap (8+x4)=8+x4:=IntWalk.i64_in _ tO;omega
 clear aw ax;have b6:=T.size;simp at b6;have bi:=fun o=>vQ T (b:=w3) cK Wi o
 have aq:=T.size;(try (simp at aq));have zz:=bM T (b:=w) tS dM;(first|simp [go_sem,kW,oz] at zz|simp [go_sem] at zz|skip);(try clear kW sU sV oz);have kW:=zz;clear zz;obtain ⟨sU,sV,oz⟩:=bO kW;go_wp2_with fail;go_loopw [5] (fun n wr=>∃ (m:Nat) (y:Wo) (v1 v2 v3 v4:Value),n=.int .i64 m∧eP y∧Wn y.ch∧y.ch.words.length+m≤37∧dG wr (w+1) v1 v2 v3 v4 y∧Cx w3 v1 v2 v3 v4∧hp wr w3=some (.cells #[y.ch.cap,y.ch.sent,y.ch.got,y.ch.fin,v1,v2,v3,v4,y.now] 35)∧hp wr w=some (.cells #[.int .i64 0,.int .i64 0,.int .i64 0,.int .i64 0,.slice none 0 0,.slice none 0 0,.slice none 0 0,.slice none 0 0,.int .i64 0] 35)∧w3+1≤wr.heap.size∧DS wr B g∧Gr g w wr) (fun n _=>(intOf n).toNat)
 case atStart =>
  obtain ⟨nr,nl,nw,nN⟩:=HN.out;have uu:=UO.out;have u3:=dG.lo (lo':=w+1) uu tO;have hgl:g<w.heap.size+1:=tO;have u4:=dG.gr (dG.drew (dG.alloc u3 _)) T hgl;have u5:=u3.ne' (Nat.le_refl _);refine ⟨N.toNat,x,_,_,_,_,by simp;omega,nr,nN,by omega,u4,u5,(bM T cK Wi).trans (heap_alloc_new w3 _),kW,by omega,ak.ds,ar⟩
 case round =>
  clear kW sU sV oz;obtain ⟨m,y,v1,v2,v3,v4,rfl,hy,hN,hw,K,bh,kS,kW,c8,hd,hG⟩:=hrel;have oz:w<wr.heap.size:=tO;have c9:w<w3.heap.size:=tO;have nR:w3<wr.heap.size:=tO;have sU:∀ o,wr.cell? ⟨w,o,none⟩=_:=fun o=>cell_of_row wr w o _ _ _ kW
  have sV:∀ o,wr.frozen? ⟨w,o,none⟩=false:=dJ kW;have sZ:∀ o,wr.frozen? ⟨w3,o,none⟩=false:=dJ kS;obtain ⟨a1,a2,a3,a4,c1,c2,c3,c4,rfl,rfl,rfl,rfl,_⟩:=K.opens;have qY:∀ o,wr.cell? ⟨w3,o,none⟩=_:=fun o=>cell_of_row wr w3 o _ _ _ kS
  have OW:=aA K;have h1:=hy.h1;have h6:=hy.h6;clear K;by_cases hm:m=0
  ·have b0:¬ (0:Int)<(m:Int):=by omega
   go_wp2;have OL:=OW.out.lo (lo':=w) tO;have N1:=OW.out.ne (b:=w) tO;refine bodyPost_ret (v:=.agg #[y.ch.cap,y.ch.sent,y.ch.got,y.ch.fin,.slice a1 y.ch.cells c1,.slice a2 y.ch.words c2,.slice a3 y.hands c3,.slice a4 y.deals c4,y.now]) (by simp [results,results163,go_sem, *]) rfl ⟨⟨_,_,_,_,_,rfl,?_,hy,by omega,hN⟩,?_,?_⟩
   ·(repeat (first|with_reducible assumption|with_reducible refine dG.alloc ?_ _|with_reducible refine dG.drew ?_|((with_reducible refine dG.store ?_ ?_ _);rotate_left;(focus (first|exact N1))) ))
   ·exact zD
   ·exact lY
  ·have b0:(0:Int)<(m:Int):=by omega
   go_wp2_with fail;refine (fJ B g (y.hands.length:Int)  _ zD  tO tO).mono ?_;rintro _ w5 ⟨⟨z,rfl,b7,cd⟩,ab,H⟩;have b9:Gr g w w5:=gT lY H;have be:=ab.lt;have a6:=H.size;(try (simp at a6))
   obtain ⟨i,rfl⟩:=Int.eq_ofNat_of_zero_le b7;have hi:i<y.hands.length:=tO;have bw:(i:Int)<(y.hands.length:Int):=tO;have ht:bW y i=true:=by simp [bW,gP,dV];omega
   have a6:=H.size;(try (simp at a6));have zz:=And.intro (bM H (b:=w3) tS dM) <| bM H (b:=w) tS dM;(first|simp [go_sem,kS,kW,oz,nR] at zz|simp [go_sem] at zz|skip);(try clear kS qY sZ nR);(try clear kW sU sV oz);obtain ⟨kS,kW⟩:=zz;obtain ⟨qY,sZ,nR⟩:=bO kS;obtain ⟨sU,sV,oz⟩:=bO kW
   have ac:=OW.out.gr H tO;obtain ⟨gh,gq,eg,_,lg,ao,_⟩:=dY.open1 ac.2.2.1 hi;simp at eg;obtain ⟨rfl,rfl⟩:=eg;have ag:w5.cell? ⟨gh,i*14,none⟩=some (.int .i64 (aJ y i).pos):=(ao 0 tO).trans (by simp [aJ,aB,Array.getD]);clear ao;by_cases b5:(aJ y i).pos=0
   ·go_wp2_with fail
    have bx:=ab.lt
    go_region_with (first|(go_at_call 165;refine (Ak B g _ zD).mono ?_;rintro _ w6 ⟨⟨kk,ee,rfl,_⟩,ay,Z⟩;have au:Gr g w w6:=gT lY Z;have O:=Z.size;(try (simp at O));have zz:=And.intro (bM Z (b:=w3) tS dM) <| bM Z (b:=w) tS dM;(first|simp [go_sem,kS,kW,oz,nR] at zz|simp [go_sem] at zz|skip);(try clear kS qY sZ nR);(try clear kW sU sV oz);obtain ⟨kS,kW⟩:=zz;obtain ⟨qY,sZ,nR⟩:=bO kS;obtain ⟨sU,sV,oz⟩:=bO kW;have ad:=dG.gr (dG.drew ac) Z tO)|(go_at_call 132;refine aK w6 zB fun bk=>?_;refine (Dy y i kk ee a1 a2 (some ⟨gh,0,none⟩) a4 c1 c2 c3 c4 _ _ ad hy).mono ?_;rintro _ w7 ⟨⟨u1,u2,u3,u4,rfl,uo⟩,M⟩;have R:=M.size;(try simp at R);have zz:=And.intro (hQ M (b:=w3)) <| hQ M (b:=w);(first|simp [go_sem,kS,kW,oz,nR] at zz|simp [go_sem] at zz|skip);(try clear kS qY sZ nR);(try clear kW sU sV oz);obtain ⟨kS,kW⟩:=zz;obtain ⟨qY,sZ,nR⟩:=bO kS;obtain ⟨sU,sV,oz⟩:=bO kW;have a9:Below w6 w6 w7:=bT bk M;clear M bk);have bv:=ay.below a9;have bt:=gB au a9;have UU:=aA uo;obtain ⟨b1,b2,b3,b4,d1,d2,d3,d4,rfl,rfl,rfl,rfl,_⟩:=uo.opens)
    all_goals (go_wp2;go_roundw)
    all_goals first|(simp [intOf];omega;done)|skip
    all_goals (have A:=uj (k:=kk) (e:=ee) hy ht;have Vy:=UU.out.ne (b:=w3) tO;have UL:=UU.out.lo (lo':=w+1) tO;generalize (asked y i kk ee).1=y' at *)
    all_goals exact ⟨m - 1,y',_,_,_,_,by go_num,A.1,by rw [A.2.2];exact hN,by rw [A.2.2];omega,by (repeat (first|with_reducible assumption|with_reducible refine dG.alloc ?_ _|with_reducible refine dG.drew ?_|((with_reducible refine dG.store ?_ ?_ _);rotate_left;(focus (first|exact Vy))) )),Vy,by simp [go_sem, *],by simp [go_sem, *],by simp;omega,zD,by exact lY⟩
   ·have c7:((aJ y i).pos == 0)=false:=by simp [b5]
    go_wp2_with fail;refine (fJ B g 4  _ zD  tO tO).mono ?_;rintro _ w6 ⟨⟨x6,rfl,bp,bq⟩,am,I⟩;have ba:Gr g w w6:=gT lY I;have bf:=am.lt;have O:=I.size;(try (simp at O))
    have O:=I.size;(try (simp at O));have zz:=And.intro (bM I (b:=w3) tS dM) <| bM I (b:=w) tS dM;(first|simp [go_sem,kS,kW,oz,nR] at zz|simp [go_sem] at zz|skip);(try clear kS qY sZ nR);(try clear kW sU sV oz);obtain ⟨kS,kW⟩:=zz;obtain ⟨qY,sZ,nR⟩:=bO kS;obtain ⟨sU,sV,oz⟩:=bO kW
    have ad:=ac.gr I tO;go_wp2_with fail;refine (jM B g 3  _ zD  tO tO).mono ?_;rintro _ w7 ⟨⟨y7,rfl⟩,Y,J⟩;have a8:Gr g w w7:=gT lY J;have bg:=Y.lt;have R:=J.size;(try (simp at R));have R:=J.size;(try (simp at R));have zz:=And.intro (bM J (b:=w3) tS dM) <| bM J (b:=w) tS dM;(first|simp [go_sem,kS,kW,oz,nR] at zz|simp [go_sem] at zz|skip);(try clear kS qY sZ nR);(try clear kW sU sV oz);obtain ⟨kS,kW⟩:=zz;obtain ⟨qY,sZ,nR⟩:=bO kS;obtain ⟨sU,sV,oz⟩:=bO kW
    have af:=ad.gr J tO;clear ag lg;cases y7
    ·go_wp2_with fail;refine aK w7 zB fun bk=>?_;refine (xZ y i (1+x6) a1 a2 (some ⟨gh,0,none⟩) a4 c1 c2 c3 c4 _ _ af hy ht tO tO).mono ?_;rintro _ w8 ⟨⟨u1,u2,u3,u4,rfl,uo⟩,F⟩;have a7:=F.size;(try simp at a7);have zz:=And.intro (hQ F (b:=w3)) <| hQ F (b:=w);(first|simp [go_sem,kS,kW,oz,nR] at zz|simp [go_sem] at zz|skip);(try clear kS qY sZ nR);(try clear kW sU sV oz);obtain ⟨kS,kW⟩:=zz;obtain ⟨qY,sZ,nR⟩:=bO kS;obtain ⟨sU,sV,oz⟩:=bO kW;have L:Below w7 w7 w8:=bT bk F;clear F bk
     have az:=Y.below L;have av:=gB a8 L;have A:=BB (most:=(1+x6)) hy ht tO tO;have AN:=FV (most:=(1+x6)) hy ht tO tO hN;have UU:=aA uo;have ht2:bW (alone y i (1+x6)).1 i=true:=by unfold bW at ht ⊢;rw [A.2.1];exact ht
     obtain ⟨ya,yb,yc⟩:=A;generalize (alone y i (1+x6)).1=y' at *;exact Ug
    ·go_wp2_with fail;refine aK w7 zB fun bk=>?_;refine (xZ y i 30 a1 a2 (some ⟨gh,0,none⟩) a4 c1 c2 c3 c4 _ _ af hy ht tO tO).mono ?_;rintro _ w8 ⟨⟨u1,u2,u3,u4,rfl,uo⟩,F⟩;have a7:=F.size;(try simp at a7);have zz:=And.intro (hQ F (b:=w3)) <| hQ F (b:=w);(first|simp [go_sem,kS,kW,oz,nR] at zz|simp [go_sem] at zz|skip);(try clear kS qY sZ nR);(try clear kW sU sV oz);obtain ⟨kS,kW⟩:=zz;obtain ⟨qY,sZ,nR⟩:=bO kS;obtain ⟨sU,sV,oz⟩:=bO kW;have L:Below w7 w7 w8:=bT bk F;clear F bk
     have az:=Y.below L;have av:=gB a8 L;have A:=BB (most:=30) hy ht tO tO;have AN:=FV (most:=30) hy ht tO tO hN;have UU:=aA uo;have ht2:bW (alone y i 30).1 i=true:=by unfold bW at ht ⊢;rw [A.2.1];exact ht
     obtain ⟨ya,yb,yc⟩:=A;generalize (alone y i 30).1=y' at *;exact Ug
end Go.Proofs.YtffhjmepfojhnaaGreat
