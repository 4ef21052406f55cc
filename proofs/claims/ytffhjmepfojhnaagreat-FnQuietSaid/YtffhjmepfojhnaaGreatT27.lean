/-
  More steps of growing of the reference model, on hands and channels that are kept whole; lists lie in memory and hold at most 2 ^ 40 elements.
-/
import Derived.Test.YtffhjmepfojhnaaGreatT23
import Derived.Test.YtffhjmepfojhnaaGreatT07
import Derived.Test.YtffhjmepfojhnaaGreatT08
import Derived.Test.YtffhjmepfojhnaaGreatT05
set_option maxRecDepth 100000
set_option maxHeartbeats 4000000
set_option linter.unusedSimpArgs false
set_option linter.unusedVariables false
namespace Go.Proofs.YtffhjmepfojhnaaGreat
open _root_.Go.Proofs.Tryz
section
open Go.RowKit
attribute [local simp] dz
attribute [local go_sem ↓] dA fU dO gW dP gY dW fE bK eO
theorem Np (c:Ch) (h:Ha) (a b:Option Addr) (p q:Nat) (w:World) (h1:gG w w a c.cells) (z1:a=none→p=0) (h2:gI w w b c.words) (z2:b=none→q=0) (Y:bC c h 16 22 2=true) (Z:h.pos=18) (hs:(cellAt c h.grow).s=5) :
  Calls prog 191 #[.agg (aH c (.slice a c.cells p) (.slice b c.words q)),.agg (aB h)] w fun r w'=>dU w w' (aW c h) r:=by
 obtain ⟨k1,k2,_,_⟩:=cO Y;obtain ⟨n1,n2⟩:=fT k1;have m1:c.cells.length≤1099511627776:=tO;have m2:c.words.length≤1099511627776:=tO;have U:=aA h1;have H2:=aA h2;have Z1:=aA z1;have Z2:=aA z2;obtain ⟨c1,c2⟩:=qQ k2;obtain ⟨i,V⟩:∃ i:Nat,h.grow=(i:Int):=⟨h.grow.toNat,by omega⟩;have hi:i<c.cells.length:=tO;have e:aW c h=(c,h,false):=by simp [aW,Y,Z,ko,hs]
 rw [e];obtain ⟨F,bo,rfl,hb,J⟩:∃ K o,a=some ⟨K,o,none⟩∧K<w.heap.size∧w.cell? ⟨K,o+i*3,none⟩=some (.int .i64 (cellAt c h.grow).s):=by
  rcases U.out with h0|⟨K,o',e,h1,h2⟩
  ·omega
  ·exact ⟨K,o',e,h1,by simpa [jy,cellAt,V,C3.val] using h2 i 0 hi tO⟩
 generalize (cellAt c h.grow).s=s at *;subst hs;clear h1 h2 z1 z2 e k1 k2 n1 n2 c1 c2;go_enter func191,ntmps191;go_wp2_with fail;refine aK w zB fun F=>?_;refine (eQ c h 16 22 2 _ b p q _ (aT U F) (aT H2 F)).mono ?_;rintro _ w1 ⟨rfl,G⟩;obtain ⟨a0,M,I⟩:=gZ F G (b:=w);(try simp at M);(try simp [go_sem] at I);replace bX:=fP I;clear I G F
 rw [Y];go_wp2_with fail;refine aK w zB fun F=>?_;refine (eT c _ b p q _ (aT U F) Z1.out (aT H2 F) Z2.out m1 m2).mono ?_;rintro _ w2 ⟨⟨v1,v2,rfl,R,T⟩,H⟩;obtain ⟨L,N,I⟩:=gZ F H (b:=w);(try simp at N);(first|simp [go_sem,bX] at I|simp [go_sem] at I|skip);replace bX:=fP I;clear I H F
 have d1:=mD R (w+1+1+1+1);have d2:=mD T (w+1+1+1+1);have p1:=aL (lo':=w) R tO;have p2:=aL (lo':=w) T tO;obtain ⟨a1,q1,rfl,_⟩:=R.seg;obtain ⟨a2,q2,rfl,_⟩:=T.seg;obtain ⟨k0,k1,k2,k3⟩:=pz (a:=w) (b:=w2);have O:=(L.cell (p:=⟨F,bo+i*3,none⟩) hb).trans J;have a5:(0:Int)≤(i:Int):=tO;have a6:(i:Int)<(c.cells.length:Int):=tO;have a3:F<w2.heap.size:=tO;have a4:F≠w2.heap.size:=tO;go_wp2_with fail
 go_region
 all_goals go_wp2
 all_goals (refine rE results191 rfl (bN c (.slice a1 c.cells q1) (.slice a2 c.words q2) tY) rfl (aQ h tY) ⟨⟨_,_,rfl,?_,?_,fun j X=>.inr (by have:=d1 j X;omega),fun j X=>.inr (by have:=d2 j X;omega)⟩,zB⟩)
 all_goals first|(show aF _ _ _ c.cells;exact zO p1 R)|skip
 all_goals first|(show aI _ _ _ c.words;exact zO p2 T)|skip
theorem Nq (c:Ch) (h:Ha) (a b:Option Addr) (p q:Nat) (w:World) (h1:gG w w a c.cells) (z1:a=none→p=0) (h2:gI w w b c.words) (z2:b=none→q=0) (Y:bC c h 16 22 2=true) (Z:h.pos=18) (hs:((cellAt c h.grow).s == 5)=false) :
  Calls prog 191 #[.agg (aH c (.slice a c.cells p) (.slice b c.words q)),.agg (aB h)] w fun r w'=>dU w w' (aW c h) r:=by
 obtain ⟨k1,k2,_,_⟩:=cO Y;obtain ⟨n1,n2⟩:=fT k1;have m1:c.cells.length≤1099511627776:=tO;have m2:c.words.length≤1099511627776:=tO;have U:=aA h1;have H2:=aA h2;have Z1:=aA z1;have Z2:=aA z2;obtain ⟨c1,c2⟩:=qQ k2;obtain ⟨i,X⟩:∃ i:Nat,h.grow=(i:Int):=⟨h.grow.toNat,by omega⟩;have hi:i<c.cells.length:=tO;have e:aW c h=done c (lZ c h):=by simp at hs;simp [aW,Y,Z,ko,hs]
 rw [e];obtain ⟨bb,bo,rfl,hb,J⟩:∃ L o,a=some ⟨L,o,none⟩∧L<w.heap.size∧w.cell? ⟨L,o+i*3,none⟩=some (.int .i64 (cellAt c h.grow).s):=by
  rcases U.out with h0|⟨L,o',e,h1,h2⟩
  ·omega
  ·exact ⟨L,o',e,h1,by simpa [jy,cellAt,X,C3.val] using h2 i 0 hi tO⟩
 generalize (cellAt c h.grow).s=s at *;have K:=fun W x1=>Jq c h (some ⟨bb,bo,none⟩) b p q W x1 c1 tO
 have D:=aA fun v1 v2 W=>bV (c) (lZ c h) v1 v2 w W
 generalize done c (lZ c h)=x at *;generalize lZ c h=y at *;replace K:=aA K;clear h1 h2 z1 z2 e k1 k2 n1 n2 c1 c2;go_enter func191,ntmps191;go_wp2_with fail;refine aK w zB fun bb=>?_;refine (eQ c h 16 22 2 _ b p q _ (aT U bb) (aT H2 bb)).mono ?_;rintro _ w1 ⟨rfl,H⟩;obtain ⟨a0,N,zz⟩:=gZ bb H (b:=w);(try simp at N);(try simp [go_sem] at zz);replace bX:=fP zz;clear zz H bb
 rw [Y];go_wp2_with fail;refine aK w zB fun bb=>?_;refine (eT c _ b p q _ (aT U bb) Z1.out (aT H2 bb) Z2.out m1 m2).mono ?_;rintro _ T ⟨⟨v1,v2,rfl,o1,o2⟩,I⟩;obtain ⟨M,O,zz⟩:=gZ bb I (b:=w);(try simp at O);(first|simp [go_sem,bX] at zz|simp [go_sem] at zz|skip);replace bX:=fP zz;clear zz I bb
 have d1:=mD o1 (w+1+1+1+1);have d2:=mD o2 (w+1+1+1+1);have p1:=aL (lo':=w) o1 tO;have p2:=aL (lo':=w) o2 tO;obtain ⟨a1,q1,rfl,_⟩:=o1.seg;obtain ⟨a2,q2,rfl,_⟩:=o2.seg;obtain ⟨k0,k1,k2,k3⟩:=pz (a:=w) (b:=T);have V:=(M.cell (p:=⟨bb,bo+i*3,none⟩) hb).trans J;have a6:(0:Int)≤(i:Int):=tO;have a7:(i:Int)<(c.cells.length:Int):=tO;have a4:bb<T.heap.size:=tO;have a5:bb≠T.heap.size:=tO;go_wp2_with fail;refine aK w zB fun bb=>?_;refine aK T zB fun bk=>?_;refine (K.out _ (aT U bb)).mono ?_;rintro _ w4 ⟨rfl,F⟩;have a3:=bT bb F;have R:=F.size;(try simp at R);have zz:=And.intro (hQ F (b:=T)) <| And.intro (hQ F (b:=w+1+1+1)) <| And.intro (hQ F (b:=w+1+1)) <| And.intro (hQ F (b:=w+1)) <| hQ F (b:=w);(first|simp [go_sem,bX,k0,k1,k2,k3] at zz|simp [go_sem] at zz|skip);replace bX:=ng zz;clear zz;have G:=bT bk F;clear F bb bk
 have s1:=own_below p1 G;have s2:=own_below p2 G;exact Ol
theorem Qv (c:Ch) (h:Ha) (a b:Option Addr) (p q:Nat) (w:World) (h1:gG w w a c.cells) (z1:a=none→p=0) (h2:gI w w b c.words) (z2:b=none→q=0) (hk:bC c h 16 22 2=true) (ac:h.pos=21) :
  Calls prog 191 #[.agg (aH c (.slice a c.cells p) (.slice b c.words q)),.agg (aB h)] w fun r w'=>dU w w' (aW c h) r:=by
 obtain ⟨X,Y,_,_⟩:=cO hk;obtain ⟨n1,n2⟩:=fT X;have m1:c.cells.length≤1099511627776:=tO;have m2:c.words.length≤1099511627776:=tO;have H1:=aA h1;have H2:=aA h2;have Z1:=aA z1;have Z2:=aA z2;obtain ⟨c1,c2⟩:=qQ Y;obtain ⟨i,ab⟩:∃ i:Nat,h.grow=(i:Int):=⟨h.grow.toNat,by omega⟩;have hi:i<c.cells.length:=tO;have e:aW c h=done (bZ c i 2) (bF h):=by simp [aW,hk,ac,ab]
 rw [e];have ST:=aA fun v1 v2 W=>mo c i 2 v1 v2 w W
 have D:=fun v1 v2 W=>bV (bZ c i 2) (bF h) v1 v2 w W
 simp only [nO,mH] at D;generalize done (bZ c i 2) (bF h)=x at *;replace D:=aA D;clear h1 h2 z1 z2 e X Y n1 n2 c1 c2;go_enter func191,ntmps191;go_wp2_with fail;refine aK w zB fun J=>?_;refine (eQ c h 16 22 2 a b p q _ (aT H1 J) (aT H2 J)).mono ?_;rintro _ w1 ⟨rfl,M⟩;obtain ⟨ad,a0,I⟩:=gZ J M (b:=w);(try simp at a0);(try simp [go_sem] at I);replace K:=fP I;clear I M J
 rw [hk];go_wp2_with fail;refine aK w zB fun J=>?_;refine (eT c a b p q _ (aT H1 J) Z1.out (aT H2 J) Z2.out m1 m2).mono ?_;rintro _ V ⟨⟨v1,v2,rfl,Z,o2⟩,N⟩;obtain ⟨ae,a3,I⟩:=gZ J N (b:=w);(try simp at a3);(first|simp [go_sem,K] at I|simp [go_sem] at I|skip);replace K:=fP I;clear I N J
 have d1:=mD Z (w+1+1+1+1);have d2:=mD o2 (w+1+1+1+1);have p1:=aL (lo':=w) Z tO;have p2:=aL (lo':=w) o2 tO;obtain ⟨a1,q1,rfl,_⟩:=Z.seg;obtain ⟨a2,q2,rfl,_⟩:=o2.seg;have nw:∀ j,(j<w.heap.size+1+1+1+1∨V.heap.size≤j)→some j≠(Value.slice a1 c.cells q1).ownBlock:=fun j hj e=>by have:=d1 _ e.symm;have:=(Z.lt _ e.symm).2;omega
 have ai:=nw (w.heap.size) tO;have aj:=nw (w+1) tO;have ak:=nw (w+1+1) tO;have al:=nw (w+1+1+1) tO;have am:=nw V tO;obtain ⟨k0,X,Y,k3⟩:=pz (a:=w) (b:=V);go_wp2_with fail
 go_region_held3 (fun w'=>hp w' V=some (.cells (aH c (.slice a1 c.cells q1) (.slice a2 c.words q2)) 31)∧hp w' (w+1)=some (.cells (aB h) 49)∧w'.cell? ⟨w+1,8,none⟩=some (.int .i64 i))
  (first|(simp [*,go_sem]))
  (first|(go_at_call 203;refine (ST.out _ _ _ (zO p1 Z) (zO p2 o2) hi).mono ?_;rintro _ w4 ⟨rfl,s1,s2,H⟩;have a5:=H.size;(try (simp at a5));have I:=And.intro (bM H (b:=V) tS dM) <| And.intro (bM H (b:=w+1+1+1) tS dM) <| And.intro (bM H (b:=w+1+1) tS dM) <| And.intro (bM H (b:=w+1) tS dM) <| bM H (b:=w) tS dM;(first|simp [go_sem,K,k0,X,Y,k3] at I|simp [go_sem] at I|skip);replace K:=ng I;clear I;have ag:Below w w w4:=mO zB H tS (fun k hk=>by have:=d1 k hk;omega);clear H)|((go_at_call 209;refine aK w zB fun J=>?_;refine aK w4 zB fun bk=>?_;refine (l8 _ _).mono ?_;rintro _ w5 ⟨rfl,F⟩;have ah:=bT J F;have a6:=F.size;(try simp at a6);have I:=And.intro (hQ F (b:=V)) <| And.intro (hQ F (b:=w+1+1+1)) <| And.intro (hQ F (b:=w+1+1)) <| And.intro (hQ F (b:=w+1)) <| hQ F (b:=w);(first|simp [go_sem,K,k0,X,Y,k3] at I|simp [go_sem] at I|skip);replace K:=ng I;clear I;have L:=bT bk F;clear F J bk);have r1:=own_below s1 L;have r2:=own_below s2 L)|((go_at_call 198;refine aK w zB fun J=>?_;refine (D.out _ _ _ (zO r1 Z) (zO r2 o2)).mono ?_;rintro _ w3 ⟨⟨y1,y2,rfl,T,U,a7,a8⟩,G⟩;have af:=bT J G;have a4:=G.size;(try simp at a4);have I:=And.intro (hQ G (b:=V)) <| And.intro (hQ G (b:=w+1+1+1)) <| And.intro (hQ G (b:=w+1+1)) <| And.intro (hQ G (b:=w+1)) <| hQ G (b:=w);(first|simp [go_sem,K,k0,X,Y,k3] at I|simp [go_sem] at I|skip);replace K:=ng I;clear I G J);obtain ⟨⟨O,R⟩,a9,aa⟩:=BI (w:=w) (w+1+1+1+1) a7 a8 d1 d2;obtain ⟨ya,yp,rfl,_⟩:=T.seg;obtain ⟨yb,yq,rfl,_⟩:=U.seg))
 all_goals go_wp2
 all_goals (refine rE results191 rfl (bN x.1 (.slice ya x.1.cells yp) (.slice yb x.1.words yq) tY) rfl (aQ x.2.1 tY) ⟨⟨_,_,rfl,?_,?_,a9,aa⟩,zB⟩)
 all_goals (first|exact zP T T O|skip)
 all_goals (first|exact zP U U R|skip)
theorem Qw (c:Ch) (h:Ha) (a b:Option Addr) (p q:Nat) (w:World) (h1:gG w w a c.cells) (z1:a=none→p=0) (h2:gI w w b c.words) (Z:b=none→q=0) (I:bC c h 16 22 2=true) (R:h.pos=22) :
  Calls prog 191 #[.agg (aH c (.slice a c.cells p) (.slice b c.words q)),.agg (aB h)] w fun r w'=>dU w w' (aW c h) r:=by
 obtain ⟨k1,k2,_,_⟩:=cO I;obtain ⟨n1,n2⟩:=fT k1;have m1:c.cells.length≤1099511627776:=tO;have m2:c.words.length≤1099511627776:=tO;have T:=aA h1;have U:=aA h2;have Z1:=aA z1;have Z2:=aA Z;obtain ⟨c1,c2⟩:=qQ k2;obtain ⟨i,O⟩:∃ i:Nat,h.grow=(i:Int):=⟨h.grow.toNat,by omega⟩;have hi:i<c.cells.length:=tO;have e:aW c h=done (bZ c i 9) ({ h with pos:=16,grow:=(i:Int) }):=by simp [aW,I,R,O]
 rw [e];have ST:=aA fun v1 v2 W=>mo c i 9 v1 v2 w W
 have D:=fun v1 v2 W=>bV (bZ c i 9) ({ h with pos:=16,grow:=(i:Int) }) v1 v2 w W
 simp only [nO,mH] at D;generalize done (bZ c i 9) ({ h with pos:=16,grow:=(i:Int) })=x at *;replace D:=aA D;clear h1 h2 z1 Z e k1 k2 n1 n2 c1 c2;go_enter func191,ntmps191;go_wp2_with fail;refine aK w zB fun bb=>?_;refine (eQ c h 16 22 2 a b p q _ (aT T bb) (aT U bb)).mono ?_;rintro _ w1 ⟨rfl,G⟩;obtain ⟨V,J,zz⟩:=gZ bb G (b:=w);(try simp at J);(try simp [go_sem] at zz);replace bX:=fP zz;clear zz G bb
 rw [I];go_wp2_with fail;refine aK w zB fun bb=>?_;refine (eT c a b p q _ (aT T bb) Z1.out (aT U bb) Z2.out m1 m2).mono ?_;rintro _ N ⟨⟨v1,v2,rfl,o1,o2⟩,H⟩;obtain ⟨X,K,zz⟩:=gZ bb H (b:=w);(try simp at K);(first|simp [go_sem,bX] at zz|simp [go_sem] at zz|skip);replace bX:=fP zz;clear zz H bb
 have d1:=mD o1 (w+1+1+1+1);have d2:=mD o2 (w+1+1+1+1);have p1:=aL (lo':=w) o1 tO;have p2:=aL (lo':=w) o2 tO;obtain ⟨a1,q1,rfl,_⟩:=o1.seg;obtain ⟨a2,q2,rfl,_⟩:=o2.seg;have M:∀ j,(j<w.heap.size+1+1+1+1∨N.heap.size≤j)→some j≠(Value.slice a1 c.cells q1).ownBlock:=fun j hj e=>by have:=d1 _ e.symm;have:=(o1.lt _ e.symm).2;omega
 have a0:=M (w.heap.size) tO;have a3:=M (w+1) tO;have a4:=M (w+1+1) tO;have a5:=M (w+1+1+1) tO;have a6:=M N tO;go_wp2_with fail;refine (ST.out _ _ _ (zO p1 o1) (zO p2 o2) hi).mono ?_;rintro _ w4 ⟨rfl,s1,s2,F⟩;have L:=F.size;(try (simp at L));have zz:=And.intro (bM F (b:=N) tS dM) <| And.intro (bM F (b:=w+1+1+1) tS dM) <| And.intro (bM F (b:=w+1+1) tS dM) <| And.intro (bM F (b:=w+1) tS dM) <| bM F (b:=w) tS dM;(first|simp [go_sem,bX] at zz|simp [go_sem] at zz|skip);replace bX:=ng zz;clear zz
 have Y:Below w w w4:=mO zB F tS (fun k I=>by have:=d1 k I;omega);clear F;obtain ⟨k0,k1,k2,k3⟩:=pz (a:=w) (b:=N);exact Ol
end
section
structure Od where
 kd:Int
 who:Int
 k:Int
 e:Int
def Dv (o:Od):Array Value:=#[.int .i64 o.kd,.int .i64 o.who,.int .i64 o.k,.int .i64 o.e]
def He (l:List Od):List Value:=l.flatMap fun o=>(Dv o).toList
def ow (x:Wo) (l:List Od):Wo:=l.foldl (fun y o=>(oJ y o.kd o.who o.k o.e).1) x
theorem xV (x:Wo) (l:List Od) (o:Od):ow x (l ++ [o])=(oJ (ow x l) o.kd o.who o.k o.e).1:=by simp [ow,List.foldl_append]
def Ei (n:Nat) (o:Od):Prop:=gP n o.who=true∧lW o.kd o.who o.k o.e=true∧(o.kd=1∨o.kd=2∨o.kd=4)
end
section
open Go.RowKit
attribute [local simp] dz
attribute [local go_sem ↓] dA fU dO gW dP gY dW fE bK eO
theorem Tv {ds:List De} {k:Nat} {d:De} (F:k<ds.length) (hc:ds.getD k De.zero=d) (h:(ds.take k).any (fun d=>d.reply == 4)=false) (e:(d.reply == 4)=false):(ds.take (k+1)).any (fun d=>d.reply == 4)=false:=by
 rw [lu ds k De.zero F,hc,List.any_append,h];simp only [List.any_cons,List.any_nil,e];rfl
theorem Qx {ds:List De} {k:Nat} {d:De} (F:k<ds.length) (hc:ds.getD k De.zero=d) (e:(d.reply == 4)=true):ds.any (fun d=>d.reply == 4)=true:=by
 rw [List.any_eq_true];exact ⟨d,by rw [← hc];simp [List.getD,F],e⟩
theorem Qy (c:Ch) (hs:List Ha) (ds:List De) (now:Int) (a b d e:Option Addr) (p q r s:Nat) (w:World) (h3:uh w w e ds) (m3:ds.length≤1099511627776) :
  Calls prog 37 #[.agg #[c.cap,c.sent,c.got,c.fin,.slice a c.cells p,.slice b c.words q,.slice d hs.length r,.slice e ds.length s,.int .i64 now]] w fun Y w'=>Y=.returned (.bool (ds.any fun d=>d.reply == 4))∧Below w w w':=by
 have T:=aA h3;clear h3;go_enter func37,ntmps37;go_wp2;go_loopw [3] (fun i wr=>∃ k:Nat,k≤ds.length∧i=.int .i64 k∧Hid ((ds.take k).any (fun d=>d.reply == 4)=false)∧wr.cell? ⟨w,7,none⟩=some (.slice e ds.length s)∧w<wr.heap.size∧Below w w wr) (fun i _=>ds.length - (intOf i).toNat)
 case atStart=>exact ⟨0,Nat.zero_le _,rfl,rfl,by simp,by simp,zB⟩
 case round =>
  obtain ⟨k,hk,rfl,F,Z,O,J⟩:=hrel;by_cases G:k<ds.length
  ·obtain ⟨M,R,rfl,K,H⟩:∃ b o,e=some ⟨b,o,none⟩∧b<w.heap.size∧(∀ i j,i<ds.length→j<7→w.cell? ⟨b,o+i*7+j,none⟩=some (sQ ds i j)):=by
    rcases T.out with N|N
    ·omega
    ·exact N
   have c0:wr.cell? ⟨M,R+k*7+5,none⟩=some (.int .i64 (ds.getD k De.zero).reply):=(J.cell (p:=⟨M,R+k*7+5,none⟩) K).trans ((H k 5 G tO).trans (by simp [sQ,jk,Array.getD]));clear H;generalize I:ds.getD k De.zero=X at c0;have L:=aA I;clear I;have U:(0:Int)≤(k:Int):=tO;have V:(k:Int)<(ds.length:Int):=tO;by_cases hp:X.reply=4
   ·go_wp2
    go_ret;exact ⟨bQ (Qx G L.out (by simp [hp])).symm,J⟩
   ·go_wp2
    go_roundw
    case rel=>exact ⟨k+1,by omega,by go_num,Tv G L.out F.out (by simp [hp]),Z,by omega,J⟩
    case measure=>simp [intOf];omega
  ·have:k=ds.length:=by omega
   subst this;go_wp2;go_ret;exact ⟨bQ (by have:=F.out;rw [List.take_length] at this;exact this.symm),J⟩
end
end Go.Proofs.YtffhjmepfojhnaaGreat
