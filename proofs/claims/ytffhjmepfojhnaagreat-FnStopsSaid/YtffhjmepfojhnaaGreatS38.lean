/-
  A step of a world, of the reference model, all cases; lists lie in memory and hold at most 2 ^ 40 elements.
-/
import Derived.Test.YtffhjmepfojhnaaGreatS30
import Derived.Test.YtffhjmepfojhnaaGreatS35
import Derived.Test.YtffhjmepfojhnaaGreatS34
import Derived.Test.YtffhjmepfojhnaaGreatS04
import Derived.Test.YtffhjmepfojhnaaGreatS03
import Derived.Deep.RegionLaw
import Derived.Test.YtffhjmepfojhnaaGreatS25
import Derived.Test.YtffhjmepfojhnaaGreatS29
import Derived.Test.YtffhjmepfojhnaaGreatS13
import Derived.Test.YtffhjmepfojhnaaGreatS27
set_option maxRecDepth 100000
set_option maxHeartbeats 4000000
set_option linter.unusedSimpArgs false
set_option linter.unusedVariables false
namespace Go.Proofs.YtffhjmepfojhnaaGreat
open _root_.Go.Proofs.Tryz
section
open Go.RowKit
theorem uO (x:Wo) (who:Int) (a b d e:Option Addr) (p q r s:Nat) (w:World) (h1:fA w w a x.ch.cells) (I:a=none→p=0) (u:fD w w b x.ch.words) (J:b=none→q=0) (y:pF w w d x.hands) (K:d=none→x.hands.length=0∧r=0) (z:pG w w e x.deals) (L:e=none→x.deals.length=0∧s=0) (E:x.ch.cells.length≤1099511627776) (F:x.ch.words.length≤1099511627776) (G:x.hands.length≤1099511627776) (H:x.deals.length≤1099511627776) (D:cK x who=true) (m:0≤x.now∧x.now≤20000) :
  Calls prog 135 #[kZ x a b d e p q r s,.int .i64 who] w fun r w'=>fE w w' (eT x who).1 (.bool (eT x who).2) r:=by
 cases A:(fZ x.ch (aL x who)).2.2 with
 | false=>exact Gn x who _ a b d e p q r s w h1 I u J y K z L E F G H D rfl A
 | true =>
  cases M:x.now == 20000 with
  | true=>exact AX x who _ a b d e p q r s w h1 I u J y K z L E F G H D rfl A M
  | false =>
   cases N:(fZ x.ch (aL x who)).2.1.pos != 0 with
   | true=>exact Gp x who _ a b d e p q r s w h1 I u J y K z L E F G H D rfl A M m N
   | false =>
    cases O:decide (1000≤x.deals.length) with
    | true=>exact Bj x who _ a b d e p q r s w h1 I u J y K z L E F G H D rfl A M m N O
    | false =>
     cases R:kM (aL x who).code (aL x who).elem (fZ x.ch (aL x who)).2.1.reply with
     | true=>exact Bh x who _ a b d e p q r s w h1 I u J y K z L E F G H D rfl A M m N O R
     | false=>exact yo x who _ a b d e p q r s w h1 I u J y K z L E F G H D rfl A M m N O R
end
section
open Go.RowKit
attribute [local simp] aP
attribute [local go_sem ↓] aQ aY aZ gK aN
attribute [local go_sem] fF
theorem cO.rep {w:World} {lo g q k:Nat} {h:Ha} (o:w.ownsRow lo 49 14 (.slice (some ⟨g,0,none⟩) ((List.replicate k h).length+1) q) ((List.replicate k h).length+1) (jF (List.replicate k h) ++ (aB h).toList)):cO w lo (.slice (some ⟨g,0,none⟩) (k+1) q) (List.replicate (k+1) h):=by
 have e:jF (List.replicate (k+1) h)=jF (List.replicate k h) ++ (aB h).toList:=by rw [List.replicate_succ'];simp [jF]
 unfold cO
 rw [e]
 simpa using o
theorem yx (cap tasks:Int) (w:World) (h0:0≤cap) (h1:cap≤4) (h2:1≤tasks) (h3:tasks≤6) :
  Calls prog 78 #[.int .i64 cap,.int .i64 tasks] w fun r w'=>fE w w' (fQ cap tasks).1 (.bool (fQ cap tasks).2) r:=by
 have e1:dA cap 0 4=true:=lu h0 h1
 have e2:dA tasks 1 6=true:=lu h2 h3
 have e:fQ cap tasks=(⟨dK cap,List.replicate tasks.toNat (aV 0 0),[],0⟩,true):=by simp [fQ,e1,e2]
 rw [e]
 have el:(dK cap).cells.length=40:=by simp [dK,e1]
 go_enter func78,ntmps78
 go_wp2_with fail;refine aK w zB fun V=>?_;refine (zY cap _).mono ?_;rintro _ D ⟨⟨v1,v2,rfl,R,T⟩,F⟩;have a8:Below w w D:=bT V F;have Z:=F.size;(try simp at Z);have J:=hQ F (b:=w);(try simp [go_sem] at J);(try clear u H G E);have u:=J;clear J;obtain ⟨H,G,E⟩:=bO u;clear F V
 try simp at R T
 have O1:=aA R
 have O2:=aA T
 obtain ⟨va,vc,rfl,_⟩:=aD.seg R
 obtain ⟨vb,vd,rfl,_⟩:=aG.seg T
 clear R T
 rw [el]
 replace O1:Hid (aD D (w+1) (.slice va 40 vc) (dK cap).cells):=by have:=O1.out;rw [el] at this;exact this
 go_wp2_with (first|(go_at_call 121;refine (gQ _ _ _ _).mono ?_;rintro _ _ ⟨rfl,rfl⟩))
 obtain ⟨i5,a5,a7,a2,X⟩:=info_parts tJ
 have n1:∀ j,(Value.slice va 40 vc).ownBlock=some j→j<D.heap.size:=fun j hj=>(O1.out.lt j hj).2
 have n2:∀ j,(Value.slice vb (dK cap).words.length vd).ownBlock=some j→j<D.heap.size:=fun j hj=>(O2.out.lt j hj).2
 go_loopw [8] (fun i wr=>∃ (k:Nat) (U:Value),k≤tasks.toNat∧i=.int .i64 k∧aD wr (w+1) (.slice va 40 vc) (dK cap).cells∧aG wr (w+1) (.slice vb (dK cap).words.length vd) (dK cap).words∧cO wr (D+1+1) U (List.replicate k (aV 0 0))∧hp wr (D+1)=some (.cells #[.int .i64 (dK cap).cap,.int .i64 (dK cap).sent,.int .i64 (dK cap).got,.int .i64 (dK cap).fin,.slice va 40 vc,.slice vb (dK cap).words.length vd,U,.slice none 0 0,.int .i64 0] 35)∧hp wr w=some (.cells #[.int .i64 0,.int .i64 0,.int .i64 0,.int .i64 0,.slice none 0 0,.slice none 0 0,.slice none 0 0,.slice none 0 0,.int .i64 0] 35)∧D+1+1≤wr.heap.size∧Below w w wr) (fun i _=>tasks.toNat - (intOf i).toNat)
 case atStart =>
  refine ⟨0,.slice none 0 0,Nat.zero_le _,rfl,World.ownsRow.alloc (World.ownsRow.alloc O1.out _) _,World.ownsRow.alloc (World.ownsRow.alloc O2.out _) _,World.ownsRow_nil _ _ _ _,?_,?_,by simp,by exact zB⟩
  all_goals (simp [go_sem, *])
 case round =>
  obtain ⟨k,U,hk,rfl,q1,q2,q3,m,u,ah,hB⟩:=hrel
  have E:w<wr.heap.size:=by omega
  have N:D<wr.heap.size:=by omega
  have q:D+1<wr.heap.size:=by omega
  have H:∀ o,wr.cell? ⟨w,o,none⟩=_:=fun o=>cell_of_row wr w o _ _ _ u
  have G:∀ o,wr.frozen? ⟨w,o,none⟩=false:=dH u
  have A:∀ o,wr.cell? ⟨D+1,o,none⟩=_:=fun o=>cell_of_row wr (D+1) o _ _ _ m
  have z:∀ o,wr.frozen? ⟨D+1,o,none⟩=false:=dH m
  have Q1:=aA q1
  have Q2:=aA q2
  have M:=aA q3
  clear q1 q2 q3
  by_cases ad:k<tasks.toNat
  ·have a6:(k:Int)<tasks:=by omega
   have ae:some w.heap.size≠U.ownBlock:=fun e=>own_ne M.out tO e.symm
   have af:some D.heap.size≠U.ownBlock:=fun e=>own_ne M.out tO e.symm
   have ag:some (D.heap.size+1)≠U.ownBlock:=fun e=>own_ne M.out tO e.symm
   have a3:=dD Q1.out M.out (by decide)
   have a4:=dD Q2.out M.out (by decide)
   go_wp2_with fail
   go_region_law (first|(go_simp;(go_at_call 130;refine aK w zB fun V=>?_;refine aK wr zB fun bk=>?_;refine (gZ 0 0 _).mono ?_;rintro _ w4 ⟨rfl,y⟩;have a9:Below w w w4:=bT V y;have a0:=y.size;(try simp at a0);have J:=And.intro (hQ y (b:=D+1)) <| hQ y (b:=w);(first|simp [go_sem,m,u,E,N,q] at J|simp [go_sem] at J|skip);(try clear m A z q);(try clear u H G E);obtain ⟨m,u⟩:=J;obtain ⟨A,z,q⟩:=bO m;obtain ⟨H,G,E⟩:=bO u;have I:Below wr wr w4:=bT bk y;clear y V bk))|(refine step_append_lies _ (by rfl) _ _ _ (by rfl) (D+1+1) 49 i5 _ 14 112 underlying32 a5 a7 a2 X rfl tO U _ _ (by rfl) (World.ownsRow.drew (World.ownsRow.alloc (own_below M.out I) _)) ⟨w4,0,none⟩ 1 1 (aB (aV 0 0)).toList (by rfl) (by rfl) (World.news_of_block (cs:=aB (aV 0 0)) (t:=49) (fr:=(0,0)) (heap_alloc_new w4 _)) (by simp [aB,Value.oneCell']) tO (by unfold maxLen;simp;omega) (by simp;omega) (by simp;omega) (w4+1) (by simp) ?_;intro g8 q8 w8 o8 O ac aa;have a1:=O.size;(try (simp at a1));have J:=And.intro (bE O (b:=D+1) tS (by assumption)) <| bE O (b:=w) tS (by assumption);(first|simp [go_sem,m,u,E,N,q] at J|simp [go_sem] at J|skip);(try clear m A z q);(try clear u H G E);obtain ⟨m,u⟩:=J;obtain ⟨A,z,q⟩:=bO m;obtain ⟨H,G,E⟩:=bO u;have B8:Below w w w8:=iN zB O (by ((try simp) <;> (try omega))) (fun k hk=>by have:=(M.out.lt k hk).1;omega)))
   all_goals (have r1:=(World.ownsRow.alloc (own_below Q1.out I) _).kept O a3;have r2:=(World.ownsRow.alloc (own_below Q2.out I) _).kept O a4;have r3:cO w8 (D+1+1) (.slice (some ⟨g8,0,none⟩) (k+1) q8) (List.replicate (k+1) (aV 0 0)):=cO.rep o8;clear o8 O)
   all_goals go_wp2
   all_goals go_roundw
   case rel=>exact ⟨k+1,_,by omega,by go_num,aI r1 (fun e=>by have:=n1 _ e;simp at this;omega) _,aI r2 (fun e=>by have:=n2 _ e;simp at this;omega) _,aI r3 (own_ne r3 (by simp)) _,by simp [go_sem, *],by simp [go_sem, *],by simp;omega,by exact zB⟩
   case measure=>simp [intOf];omega
   all_goals (first|exact ⟨k+1,_,by omega,by go_num,aI r1 (fun e=>by have:=n1 _ e;simp at this;omega) _,aI r2 (fun e=>by have:=n2 _ e;simp at this;omega) _,aI r3 (own_ne r3 (by simp)) _,by simp [go_sem, *],by simp [go_sem, *],by simp;omega,by exact zB⟩|(simp [intOf];omega))
  ·have Y:k=tasks.toNat:=by omega
   have a6:¬ (k:Int)<tasks:=by omega
   have K:=aA Y
   have L:=aA el
   obtain ⟨vf,vg,rfl,_⟩:=cO.seg M.out
   have ab:(List.replicate k (aV 0 0)).length=k:=by simp
   clear Y el
   go_wp2
   have R:=Q1.out
   have T:=Q2.out
   have o3:=M.out
   have p1:=aH (lo':=w) R tO
   have p2:=aH (lo':=w) T tO
   have p3:=aH (lo':=w) o3 tO
   rw [← K.out]
   refine bodyPost_ret (v:=.tuple #[.agg #[.int .i64 (dK cap).cap,.int .i64 (dK cap).sent,.int .i64 (dK cap).got,.int .i64 (dK cap).fin,.slice va 40 vc,.slice vb (dK cap).words.length vd,.slice vf (List.replicate k (aV 0 0)).length vg,.slice none 0 0,.int .i64 0],.bool true]) (by simp [results,results78,go_sem, *]) rfl ⟨⟨_,_,_,_,rfl,?_,?_,?_,World.ownsRow_nil _ _ _ _⟩,by exact zB⟩
   ·exact zO p1 R
   ·exact zO p2 T
   ·exact zO p3 o3
end
section
open Go.RowKit
attribute [local simp] aP
attribute [local go_sem ↓] aQ aY aZ gK aN
attribute [local go_sem] fF
theorem lY {w:World} {lo:Nat} {t:TypeId} {n k:Nat} {v:Value} {m:List Value} {f:Nat→Nat→Value} (h:w.ownsRow lo t k v n m) (u:∀ i j,i<n→j<k→m[i*k+j]?=some (f i j)):∃ (a:Option Addr) (cap:Nat),v=.slice a n cap∧Seg w w a n k f∧(a=none→n=0∧cap=0):=by
 obtain ⟨a,cap,rfl,hs⟩:=uZ h u
 refine ⟨a,cap,rfl,hs,fun e=>?_⟩
 subst e
 rcases h.2 with ⟨e,r⟩|⟨g,cap,q,e,_⟩
 ·simp at e;exact ⟨r,e.2⟩
 ·simp at e
theorem dO.opens {w:World} {lo:Nat} {z A D E:Value} {y:Wo} (h:dO w lo z A D E y):∃ (a b d e:Option Addr) (p q r s:Nat),z=.slice a y.ch.cells p∧A=.slice b y.ch.words q∧D=.slice d y.hands r∧E=.slice e y.deals s∧fA w w a y.ch.cells∧(a=none→p=0)∧fD w w b y.ch.words∧(b=none→q=0)∧pF w w d y.hands∧(d=none→y.hands.length=0∧r=0)∧pG w w e y.deals∧(e=none→y.deals.length=0∧s=0):=by
 obtain ⟨h1,J,K,L⟩:=h
 obtain ⟨a,p,F,M,T⟩:=lY h1 fun i j m u=>jf y.ch.cells i j m u
 obtain ⟨b,q,G,N,U⟩:=lY (f:=jT y.ch.words) J fun i j m u=>by
  have:j=0:=by omega
  subst this
  simp [ints,jT,List.getD,m]
 obtain ⟨d,r,H,O,V⟩:=lY K fun i j m u=>kg y.hands i j m u
 obtain ⟨e,s,I,R,X⟩:=lY L fun i j m u=>mM y.deals i j m u
 exact ⟨a,b,d,e,p,q,r,s,F,G,H,I,M,fun h=>(T h).2,N,fun h=>(U h).2,O,V,R,X⟩
theorem dO.lo {w:World} {lo lo':Nat} {q r u z:Value} {y:Wo} (h:dO w lo q r u z y) (m:lo'≤lo):dO w lo' q r u z y:=⟨aH h.1 m,aH h.2.1 m,aH h.2.2.1 m,aH h.2.2.2 m⟩
theorem dO.below {w w':World} {lo:Nat} {q r u z:Value} {y:Wo} (h:dO w lo q r u z y) (m:Below w w w'):dO w' lo q r u z y:=⟨own_below h.1 m,own_below h.2.1 m,own_below h.2.2.1 m,own_below h.2.2.2 m⟩
def Bz (b:Nat) (v1 v2 v3 v4:Value):Prop:=v1.ownBlock≠some b∧v2.ownBlock≠some b∧v3.ownBlock≠some b∧v4.ownBlock≠some b
theorem dO.store {w:World} {lo:Nat} {m q r z:Value} {y:Wo} (h:dO w lo m q r z y) {p:Addr} (hp:Bz p.block m q r z) (u:Value):dO (w.setCell p u) lo m q r z y:=⟨aI h.1 hp.1 u,aI h.2.1 hp.2.1 u,aI h.2.2.1 hp.2.2.1 u,aI h.2.2.2 hp.2.2.2 u⟩
theorem dO.alloc {w:World} {lo:Nat} {m q r u:Value} {y:Wo} (h:dO w lo m q r u y) (o:Obj):dO (w.alloc o) lo m q r u y:=⟨World.ownsRow.alloc h.1 o,World.ownsRow.alloc h.2.1 o,World.ownsRow.alloc h.2.2.1 o,World.ownsRow.alloc h.2.2.2 o⟩
theorem dO.drew {w:World} {lo:Nat} {m q r u:Value} {y:Wo} (h:dO w lo m q r u y):dO w.drew lo m q r u y:=h
theorem dO.ne {w:World} {lo b:Nat} {q r u z:Value} {y:Wo} (h:dO w lo q r u z y) (m:b<lo):Bz b q r u z:=⟨own_ne h.1 m,own_ne h.2.1 m,own_ne h.2.2.1 m,own_ne h.2.2.2 m⟩
theorem dO.ne' {w:World} {lo b:Nat} {q r u z:Value} {y:Wo} (h:dO w lo q r u z y) (m:w.heap.size≤b):Bz b q r u z:=⟨dN h.1 m,dN h.2.1 m,dN h.2.2.1 m,dN h.2.2.2 m⟩
theorem lZ {y:Wo} (h:fK y):y.ch.cells.length≤1099511627776∧y.ch.words.length≤1099511627776∧y.hands.length≤1099511627776∧y.deals.length≤1099511627776:=by
 have:=lQ h.ch;have:=h.h6;have:=h.d
 omega
theorem GA {n:Nat} {y:Wo} {who:Int} (hp:(aL y who).pos≠0) (hs:(eT y who).2=true):fV (n+1) y who=((fV n (eT y who).1 who).1,(fV n (eT y who).1 who).2+1):=by
 simp [fV,hp,hs]
theorem Ec {n:Nat} {y:Wo} {who:Int} (hs:(eT y who).2=false):fV n y who=(y,0):=by
 cases n with
 | zero=>rfl
 | succ n=>simp [fV,hs]
theorem Ki (x:Wo) (who most:Int) (a b d e:Option Addr) (p q r s:Nat) (w:World) (h1:fA w w a x.ch.cells) (z1:a=none→p=0) (h2:fD w w b x.ch.words) (z2:b=none→q=0) (h3:pF w w d x.hands) (z3:d=none→x.hands.length=0∧r=0) (h4:pG w w e x.deals) (z4:e=none→x.deals.length=0∧s=0) (m1:x.ch.cells.length≤1099511627776) (m2:x.ch.words.length≤1099511627776) (m3:x.hands.length≤1099511627776) (m4:x.deals.length≤1099511627776) (hk:bC x=true) (ht:cK x who=true) (ad:0≤most) (ae:most≤20000) :
  Calls prog 133 #[kZ x a b d e p q r s,.int .i64 who,.int .i64 most] w fun r w'=>fE w w' (alone x who most).1 (.int .i64 (alone x who most).2) r:=by
 have H1:=aA h1
 have H2:=aA h2
 have H3:=aA h3
 have H4:=aA h4
 have Z1:=aA z1
 have Z2:=aA z2
 have Z3:=aA z3
 have Z4:=aA z4
 clear h1 h2 h3 h4 z1 z2 z3 z4
 obtain ⟨i,rfl⟩:∃ i:Nat,who=(i:Int):=⟨who.toNat,by simp [cK,eH,dA] at ht;omega⟩
 have hi:i<x.hands.length:=by simp [cK,eH,dA] at ht;omega
 obtain ⟨b3,o3,rfl,an,ao⟩:∃ b o,d=some ⟨b,o,none⟩∧b<w.heap.size∧Hid (∀ i j,i<x.hands.length→j<14→w.cell? ⟨b,o+i*14+j,none⟩=some (dY x.hands i j)):=by
  rcases H3.out with h0|h0
  ·omega
  ·exact h0
 have ay:∀ W:World,hp W b3=hp w b3→(jU (.pointer (some ⟨b3,o3+i*14,none⟩))).run prog W=.ok (.agg (aB (aL x i))) W:=fun W e=>jh _ fun j hj=>by rw [show (aB (aL x i)).getD j (.int .i64 0)=dY x.hands i j by simp [dY,aL],← ao.out i j hi hj];exact World.cell?_of_block e
 have az:(0:Int)≤(i:Int):=by omega
 have b0:(i:Int)<(x.hands.length:Int):=by omega
 have e0:alone x i most=((fV most.toNat x i).1,((fV most.toNat x i).2:Int)):=by simp [alone,hk,ht,lu ad ae]
 rw [e0]
 have a7:eH x.hands i=true:=ht
 have b7:dA most 0 20000=true:=lu ad ae
 clear e0
 go_enter func133,ntmps133
 go_wp2_with fail;refine aK w zB fun G=>?_;refine (fG x a b _ e p q r s _ (aT H1 G) (aT H2 G) (aT H3 G) (aT H4 G) m3 m4).mono ?_;rintro _ w1 ⟨rfl,L⟩;have av:Below w w w1:=bT G L;have ah:=L.size;(try simp at ah);have K:=And.intro (hQ L (b:=w+1)) <| hQ L (b:=w);(try simp [go_sem] at K);(try clear u E D z);(try clear I Y V H);obtain ⟨u,I⟩:=K;obtain ⟨E,D,z⟩:=bO u;obtain ⟨Y,V,H⟩:=bO I;clear L G
 rw [hk]
 go_wp2_with fail;refine aK w zB fun G=>?_;refine (jG x.ch x.hands x.now i _ _ _ _ _ _ _ _ _ _ _ m3 _).mono ?_;rintro _ w2 ⟨rfl,M⟩;have aw:Below w w w2:=bT G M;have ai:=M.size;(try simp at ai);have K:=And.intro (hQ M (b:=w+1)) <| hQ M (b:=w);(first|simp [go_sem,u,I,H,z] at K|simp [go_sem] at K|skip);(try clear u E D z);(try clear I Y V H);obtain ⟨u,I⟩:=K;obtain ⟨E,D,z⟩:=bO u;obtain ⟨Y,V,H⟩:=bO I;clear M G
 rw [a7]
 go_wp2_with fail;refine aK w zB fun G=>?_;refine (iE x a b _ e p q r s _ (aT H1 G) Z1.out (aT H2 G) Z2.out (aT H3 G) Z3.out (aT H4 G) Z4.out m1 m2 m3 m4).mono ?_;rintro _ O ⟨⟨v1,v2,v3,v4,rfl,o1,o2,a0,o4⟩,N⟩;have a8:Below w w O:=bT G N;have aj:=N.size;(try simp at aj);have K:=And.intro (hQ N (b:=w+1)) <| hQ N (b:=w);(first|simp [go_sem,u,I,H,z] at K|simp [go_sem] at K|skip);(try clear u E D z);(try clear I Y V H);obtain ⟨u,I⟩:=K;obtain ⟨E,D,z⟩:=bO u;obtain ⟨Y,V,H⟩:=bO I;clear N G
 try simp at o1 o2 a0 o4
 have O1:=aA o1
 have O2:=aA o2
 have O3:=aA a0
 have O4:=aA o4
 obtain ⟨va,vc,rfl,_⟩:=aD.seg o1
 obtain ⟨vb,vd,rfl,_⟩:=aG.seg o2
 obtain ⟨vf,vg,rfl,_⟩:=cO.seg a0
 obtain ⟨vh,vi,rfl,_⟩:=dV.seg o4
 clear o1 o2 a0 o4
 have z3:hp O b3=hp w b3:=a8.block b3 an
 have b9:b3<O.heap.size:=by omega
 have ql:b3≠O.heap.size:=by omega
 have hr:=(gP x).1 hk
 go_wp2_with (go_at_call 81;refine (oI _ _).mono ?_;rintro _ _ ⟨rfl,rfl⟩)
 have aa:dO O (w+1+1) (.slice va x.ch.cells vc) (.slice vb x.ch.words vd) (.slice vf x.hands vg) (.slice vh x.deals vi) x:=dO.lo (lo:=w2) ⟨O1.out,O2.out,O3.out,O4.out⟩ tO
 clear O1 O2 O3 O4
 go_loopw [9] (fun n wr=>∃ (k:Nat) (y:Wo) (v1 v2 v3 v4:Value),k≤most.toNat∧n=.int .i64 k∧fK y∧y.hands.length=x.hands.length∧fV most.toNat x i=((fV (most.toNat - k) y i).1,(fV (most.toNat - k) y i).2+k)∧dO wr (w+1+1) v1 v2 v3 v4 y∧Bz O v1 v2 v3 v4∧hp wr O=some (.cells #[y.ch.cap,y.ch.sent,y.ch.got,y.ch.fin,v1,v2,v3,v4,y.now] 35)∧hp wr (w+1)=some (.cells #[.int .i64 0,.int .i64 0,.int .i64 0,.int .i64 0,.slice none 0 0,.slice none 0 0,.slice none 0 0,.slice none 0 0,.int .i64 0] 35)∧O+1≤wr.heap.size∧Below w w wr) (fun n _=>most.toNat - (intOf n).toNat)
 case atStart =>
  refine ⟨0,x,_,_,_,_,Nat.zero_le _,rfl,hr,rfl,by simp,dO.alloc aa _,aa.ne' (Nat.le_refl _),heap_alloc_new O _,?_,by simp,by exact zB⟩
  simp [go_sem, *]
 case round =>
  obtain ⟨k,y,v1,v2,v3,v4,b5,rfl,hy,ak,ab,T,a6,F,u,b8,hB⟩:=hrel
  obtain ⟨y1,y2,y3,y4⟩:=lZ hy
  have H:w<wr.heap.size:=by omega
  have z:w+1<wr.heap.size:=by omega
  have J:O<wr.heap.size:=by omega
  have E:∀ o,wr.cell? ⟨w+1,o,none⟩=_:=fun o=>cell_of_row wr (w+1) o _ _ _ u
  have D:∀ o,wr.frozen? ⟨w+1,o,none⟩=false:=dH u
  have R:∀ o,wr.frozen? ⟨O,o,none⟩=false:=dH F
  have OW:=aA T
  obtain ⟨a1,a2,a3,a4,c1,c2,c3,c4,rfl,rfl,rfl,rfl,s1,t1,s2,t2,s3,t3,s4,t4⟩:=T.opens
  have U:∀ o,wr.cell? ⟨O,o,none⟩=_:=fun o=>cell_of_row wr O o _ _ _ F
  have OF:=aA a6
  have ap:i<y.hands.length:=by omega
  obtain ⟨g,gq,eg,_,lg,ac,_⟩:=cO.open1 T.2.2.1 ap
  simp at eg
  obtain ⟨rfl,rfl⟩:=eg
  have au:wr.cell? ⟨g,i*14,none⟩=some (.int .i64 (aL y i).pos):=(ac 0 tO).trans (by simp [aL,aB,Array.getD])
  have Rt:(i:Int)<(y.hands.length:Int):=by omega
  have AL:=aA ab
  clear ab T a6 ac
  have S1:=aA s1
  have S2:=aA s2
  have S3:=aA s3
  have S4:=aA s4
  clear s1 s2 s3 s4
  have HL:=aA ak
  clear ak
  have N1:=OW.out.ne (b:=w+1) tO
  have OL:=OW.out.lo (lo':=w) tO
  by_cases b6:k<most.toNat
  ·have aq:(k:Int)<most:=by omega
   by_cases ag:(aL y i).pos=0
   ·have Z:fV most.toNat x i=(y,k):=by rw [AL.out,vQ ag];simp
    go_wp2
    (try rw [Z])
    refine bodyPost_ret (v:=.tuple #[.agg #[y.ch.cap,y.ch.sent,y.ch.got,y.ch.fin,.slice a1 y.ch.cells c1,.slice a2 y.ch.words c2,.slice (some ⟨g,0,none⟩) y.hands c3,.slice a4 y.deals c4,y.now],.int .i64 k]) (by simp [results,results133,go_sem, *]) rfl ⟨⟨_,_,_,_,rfl,?_⟩,by exact zB⟩
    (repeat (first|with_reducible assumption|with_reducible refine dO.alloc ?_ _|with_reducible refine dO.drew ?_|((with_reducible refine dO.store ?_ ?_ _);rotate_left;(focus (first|exact N1))) ))
   ·have hY:=uO y i a1 a2 (some ⟨g,0,none⟩) a4 c1 c2 c3 c4 wr S1.out t1 S2.out t2 S3.out t3 S4.out t4 y1 y2 y3 y4 (by unfold cK;rw [HL.out];exact a7) ⟨hy.n0,hy.n1⟩
    cases hs:(eT y i).2 with
    | false =>
     rw [hs] at hY
     have Z:fV most.toNat x i=(y,k):=by rw [AL.out,Ec hs];simp
     have EA:=aA Z
     clear Z hs
     go_wp2_with fail;refine aK w zB fun G=>?_;refine aK wr zB fun bk=>?_;refine (hY).mono ?_;rintro _ w5 ⟨⟨u1,u2,u3,u4,rfl,uo⟩,A⟩;have a9:Below w w w5:=bT G A;have X:=A.size;(try simp at X);have K:=And.intro (hQ A (b:=O)) <| hQ A (b:=w+1);(first|simp [go_sem,F,u,H,J,z] at K|simp [go_sem] at K|skip);(try clear F U R J);(try clear u E D z);obtain ⟨F,u⟩:=K;obtain ⟨U,R,J⟩:=bO F;obtain ⟨E,D,z⟩:=bO u;have a5:Below wr wr w5:=bT bk A;clear A G bk
     have ax:=OL.below a5
     obtain ⟨b1,b2,am,b4,d1,d2,d3,d4,rfl,rfl,rfl,rfl,_⟩:=uo.opens
     go_wp2
     rw [EA.out]
     refine bodyPost_ret (v:=.tuple #[.agg #[y.ch.cap,y.ch.sent,y.ch.got,y.ch.fin,.slice a1 y.ch.cells c1,.slice a2 y.ch.words c2,.slice (some ⟨g,0,none⟩) y.hands c3,.slice a4 y.deals c4,y.now],.int .i64 k]) (by simp [results,results133,go_sem, *]) rfl ⟨⟨_,_,_,_,rfl,?_⟩,by exact zB⟩
     (repeat (first|with_reducible assumption|with_reducible refine dO.alloc ?_ _|with_reducible refine dO.drew ?_|((with_reducible refine dO.store ?_ ?_ _);rotate_left;(focus (first|exact N1))) ))
    | true =>
     obtain ⟨r1,r2,_,_,_⟩:=lS hy (by unfold cK;rw [HL.out];exact a7) hs
     rw [hs] at hY
     obtain ⟨m,hm⟩:∃ m,most.toNat - k=m+1:=⟨most.toNat - k - 1,by omega⟩
     have af:most.toNat - (k+1)=m:=by omega
     have Z:fV most.toNat x i=((fV (most.toNat - (k+1)) (eT y i).1 i).1,(fV (most.toNat - (k+1)) (eT y i).1 i).2+(k+1)):=by
      rw [AL.out,hm,af,GA ag hs]
      simp
      omega
     have EA:=aA Z
     have R2:=aA (r2.trans HL.out)
     generalize (eT y i).1=y' at *
     clear Z hs hm af r2
     go_wp2_with fail;refine aK w zB fun G=>?_;refine aK wr zB fun bk=>?_;refine (hY).mono ?_;rintro _ w5 ⟨⟨u1,u2,u3,u4,rfl,uo⟩,A⟩;have a9:Below w w w5:=bT G A;have X:=A.size;(try simp at X);have K:=And.intro (hQ A (b:=O)) <| hQ A (b:=w+1);(first|simp [go_sem,F,u,H,J,z] at K|simp [go_sem] at K|skip);(try clear F U R J);(try clear u E D z);obtain ⟨F,u⟩:=K;obtain ⟨U,R,J⟩:=bO F;obtain ⟨E,D,z⟩:=bO u;have a5:Below wr wr w5:=bT bk A;clear A G bk
     have UO:=aA uo
     obtain ⟨b1,b2,am,b4,d1,d2,d3,d4,rfl,rfl,rfl,rfl,_⟩:=uo.opens
     have al:=UO.out.ne (b:=O) tO
     have ar:=UO.out.ne' (b:=w5) tO
     have UL:=UO.out.lo (lo':=w+1+1) tO
     go_wp2
     go_roundw
     case rel=>exact ⟨k+1,y',_,_,_,_,by omega,by go_num,r1,R2.out,EA.out,by (repeat (first|with_reducible assumption|with_reducible refine dO.alloc ?_ _|with_reducible refine dO.drew ?_|((with_reducible refine dO.store ?_ ?_ _);rotate_left;(focus (first|exact al|exact ar))) )),al,by simp [go_sem, *],by simp [go_sem, *],by simp;omega,by exact zB⟩
     case measure=>simp [intOf];omega
  ·have aq:¬ (k:Int)<most:=by omega
   have Z:fV most.toNat x i=(y,k):=by
    have e0:most.toNat - k=0:=by omega
    rw [AL.out,e0]
    simp [fV]
   go_wp2
   (try rw [Z])
   refine bodyPost_ret (v:=.tuple #[.agg #[y.ch.cap,y.ch.sent,y.ch.got,y.ch.fin,.slice a1 y.ch.cells c1,.slice a2 y.ch.words c2,.slice (some ⟨g,0,none⟩) y.hands c3,.slice a4 y.deals c4,y.now],.int .i64 k]) (by simp [results,results133,go_sem, *]) rfl ⟨⟨_,_,_,_,rfl,?_⟩,by exact zB⟩
   (repeat (first|with_reducible assumption|with_reducible refine dO.alloc ?_ _|with_reducible refine dO.drew ?_|((with_reducible refine dO.store ?_ ?_ _);rotate_left;(focus (first|exact N1))) ))
end
section
open Go.RowKit
attribute [local simp] aP
attribute [local go_sem ↓] aQ aY aZ gK aN
attribute [local go_sem] fF
theorem sN {cap tasks:Int} (h:dA cap 0 4=false∨dA tasks 1 6=false):fQ cap tasks=(Wo.zero,false):=by
 unfold fQ
 rcases h with h|h <;> simp [h]
theorem zL (n lo m:Int):(dA n lo m=true∧lo≤n∧n≤m)∨dA n lo m=false:=by
 cases h:dA n lo m with
 | true=>left;simp [dA] at h;exact ⟨rfl,h.1,h.2⟩
 | false=>exact .inr rfl
end
section
open Go.RowKit
attribute [local simp] aP
attribute [local go_sem ↓] aQ aY aZ gK aN
attribute [local go_sem] fF
theorem GD (n i j:Nat) (m:i<n) (q:j<14):dY (List.replicate n (aV 0 0)) i j=.int .i64 0:=by
 have e:(List.replicate n (aV 0 0)).getD i Ha.zero=Ha.zero:=by
  unfold List.getD;rw [List.getElem?_replicate,if_pos m];rfl
 unfold dY
 rw [e]
 have h:j=0∨j=1∨j=2∨j=3∨j=4∨j=5∨j=6∨j=7∨j=8∨j=9∨j=10∨j=11∨j=12∨j=13:=by omega
 rcases h with rfl|rfl|rfl|rfl|rfl|rfl|rfl|rfl|rfl|rfl|rfl|rfl|rfl|rfl <;> rfl
theorem Na {w:World} {g n:Nat} (h:hp w g=some (.cells (Array.replicate (n*14) (.int .i64 0)) 49)):Row w g 49 n 14 (dY (List.replicate n (aV 0 0))) :=
 ⟨_,h,by simp,fun i j m q=>by rw [Array.getElem?_replicate,if_pos tO,GD n i j m q]⟩
theorem qZ (cap tasks:Int) (w:World) (h:dA cap 0 4=false∨dA tasks 1 6=false) :
  Calls prog 12 #[.int .i64 cap,.int .i64 tasks] w fun r w'=>fE w w' Wo.zero (.bool false) r:=by
 have u:dA cap 0 4=false∨(dA cap 0 4=true∧decide (tasks<1)=true)∨(dA cap 0 4=true∧decide (tasks<1)=false∧decide (6<tasks)=true):=by
  cases h1:dA cap 0 4 with
  | false=>exact .inl rfl
  | true =>
   rw [h1] at h
   have m:dA tasks 1 6=false:=by simpa using h
   simp [dA] at m
   by_cases q:tasks<1
   ·exact .inr (.inl ⟨rfl,by simp [q]⟩)
   ·exact .inr (.inr ⟨rfl,by simp [q],by simp;omega⟩)
 clear h
 rcases u with h|⟨h,m⟩|⟨h,m,q⟩
 all_goals
  go_enter func12,ntmps12
  go_wp2_with (go_at_call 45;refine (eO _ _ _).mono ?_;rintro _ _ ⟨rfl,rfl⟩)
  refine bodyPost_ret (v:=.tuple #[.agg #[.int .i64 0,.int .i64 0,.int .i64 0,.int .i64 0,.slice none 0 0,.slice none 0 0,.slice none 0 0,.slice none 0 0,.int .i64 0],.bool false]) (by simp [results,results12,go_sem, *]) rfl ⟨⟨_,_,_,_,rfl,jg _ _⟩,by exact zB⟩
theorem yz (cap:Int) (n:Nat) (w:World) (h:dA cap 0 4=true) (h1:1≤n) (h6:n≤6) :
  Calls prog 12 #[.int .i64 cap,.int .i64 n] w fun r w'=>ME w w' ⟨dK cap,List.replicate n (aV 0 0),[],0⟩ (.bool true) r:=by
 have t1:decide ((n:Int)<1)=false:=by simp;omega
 have t2:decide (6<(n:Int))=false:=by simp;omega
 have z:(dK cap).cells.length=40:=by simp [dK,h]
 have A:(dK cap).words=[]:=by simp [dK,h]
 have HC:=aA z
 have HW:=aA A
 clear z A
 go_enter func12,ntmps12
 go_wp2_with (go_at_call 45;refine (eO _ _ _).mono ?_;rintro _ _ ⟨rfl,rfl⟩)
 refine aK w zB fun bb=>?_
 refine (DJ cap _).mono ?_
 rintro _ U ⟨⟨v1,v2,rfl,L,T,a2⟩,u⟩
 have X:Below w w U:=bT bb u
 have Y:=u.size;(try (simp at Y));have I:=hQ u (b:=w);(first|(simp [go_sem,m,q] at I)|(simp [go_sem] at I));(try clear G D);(try clear m);have m:=I;clear I;(try clear q);obtain ⟨G,D,q⟩:=bO m
 clear u bb
 replace L:=New.more L (lo':=w+1) (by simp)
 replace T:=New.more T (lo':=w+1) (by simp)
 obtain ⟨va,vc,rfl,_⟩:=L.seg
 obtain ⟨vb,vd,rfl,_⟩:=T.seg
 go_wp2_with fail
 refine aK U zB fun bk=>?_
 refine (iF 0 0 _).mono ?_
 rintro _ V ⟨rfl,y⟩
 have J:Below U U V:=bT bk y
 have K:=y.size;(try (simp at K));have I:=hQ y (b:=w);(first|(simp [go_sem,m,q] at I)|(simp [go_sem] at I));(try clear G D);(try clear m);have m:=I;clear I;(try clear q);obtain ⟨G,D,q⟩:=bO m
 clear y bk
 go_wp2_with fail
 show Calls prog _ _ (V.alloc (.cells (Array.replicate 14 (.int .i64 0)) 49)) _
 generalize R:World.alloc V _=wa
 have M:hp wa V=some (.cells (Array.replicate 14 (.int .i64 0)) 49):=by rw [← R];exact heap_alloc_new _ _
 have H:Below V V wa:=by rw [← R];exact aS _ _
 clear R
 refine (FN n V h1 h6 wa (fun j hj=>by rw [(bO M).1 j,Array.getElem?_replicate,if_pos hj]) (bO M).2.2).mono ?_
 rintro _ w3 ⟨⟨g,rfl,a5,hg⟩,F⟩
 have a1:=H.size
 have E:Below U U w3:=J.trans ((H.mono K).trans (F.mono tO))
 have a4:Below w w w3:=bT X E
 have Z:=eP m (H.trans (F.mono a1))
 have lg:=(bO hg).2.2
 have gb:∀ i,(Value.slice va 0 0).ownBlock=some i→i≠g:=fun i e=>by
  have:=(New.lo' L i e).2
  omega
 have nb:(Value.slice vb 0 0).ownBlock=none:=by rw [← lD vb _ vd];exact a2
 replace L:=New.below L E
 replace T:=New.below T E
 have R3:=Na hg
 have a3:U.heap.size≤g:=by omega
 clear m G D q M H F J
 obtain ⟨G,D,q⟩:=bO Z
 go_wp2
 refine bodyPost_ret (v:=.tuple #[.agg #[.int .i64 (dK cap).cap,.int .i64 (dK cap).sent,.int .i64 (dK cap).got,.int .i64 (dK cap).fin,.slice va (dK cap).cells.length vc,.slice vb (dK cap).words.length vd,.slice (some ⟨g,0,none⟩) n n,.slice none 0 0,.int .i64 0],.bool true]) (by simp [results,results12,go_sem, *]) rfl ?_
 generalize O:World.setCell _ _ _=w4
 have N:w3.grownBy w4 (some w.heap.size):=by rw [← O];exact zG
 have a0:Below w w w4:=by rw [← O];exact zB
 clear O
 have k1:=New.kept L N (.inr fun e=>by have:=(New.lt L e).1;omega)
 have k2:=New.kept T N (.inr fun e=>by have:=(New.lt T e).1;omega)
 have k3:Row w4 g 49 n 14 (dY (List.replicate n (aV 0 0))):=R3.of_block (N.block g lg (by simp;omega))
 have l3:=k3.lt
 have Ru:New w4 w (.slice (some ⟨g,0,none⟩) n n) n 14 (dY (List.replicate n (aV 0 0))):=k3.newS tO
 refine ⟨⟨va,vb,some ⟨g,0,none⟩,none,vc,vd,n,0,by simp [iA],⟨⟨New.more k1 tO,New.more k2 tO,by simpa using Ru,.inl ⟨rfl,rfl⟩⟩,⟨fun i e=>(New.lo' k1 i e).2,fun i e=>(New.lo' k2 i e).2,fun i e=>by simp [Value.ownBlock] at e;omega,fun i e=>by simp [Value.ownBlock] at e⟩⟩,⟨fun i e=>⟨by rw [nb];exact nofun,fun e2=>by simp [Value.ownBlock] at e2;exact gb i e e2.symm,by simp [Value.ownBlock]⟩,fun i e=>by (rw [nb] at e;cases e),fun i e=>by simp [Value.ownBlock]⟩⟩,a0⟩
theorem yA (cap tasks:Int) (w:World) :
  Calls prog 12 #[.int .i64 cap,.int .i64 tasks] w fun r w'=>ME w w' (fQ cap tasks).1 (.bool (fQ cap tasks).2) r:=by
 rcases zL cap 0 4 with ⟨h,q,h1⟩|h
 ·rcases zL tasks 1 6 with ⟨m,u,y⟩|t
  ·obtain ⟨n,rfl⟩:∃ n:Nat,tasks=(n:Int):=⟨tasks.toNat,by omega⟩
   rw [show fQ cap (n:Int)=(⟨dK cap,List.replicate n (aV 0 0),[],0⟩,true) by simp [fQ,h,m]]
   exact yz cap n w h tO tO
  ·rw [sN (.inr t)];exact (qZ cap tasks w (.inr t)).mono fun _ _ h=>h.toW
 ·rw [sN (.inl h)];exact (qZ cap tasks w (.inl h)).mono fun _ _ h=>h.toW
end
end Go.Proofs.YtffhjmepfojhnaaGreat
