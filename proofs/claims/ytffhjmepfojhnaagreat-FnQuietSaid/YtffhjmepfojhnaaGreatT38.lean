/-
  A step of a world, of the reference model, all cases; lists lie in memory and hold at most 2 ^ 40 elements.
-/
import Derived.Test.YtffhjmepfojhnaaGreatT30
import Derived.Test.YtffhjmepfojhnaaGreatT35
import Derived.Test.YtffhjmepfojhnaaGreatT34
import Derived.Test.YtffhjmepfojhnaaGreatT05
import Derived.Test.YtffhjmepfojhnaaGreatT04
import Derived.Deep.RegionLaw
set_option maxRecDepth 100000
set_option maxHeartbeats 4000000
set_option linter.unusedSimpArgs false
set_option linter.unusedVariables false
namespace Go.Proofs.YtffhjmepfojhnaaGreat
open _root_.Go.Proofs.Tryz
section
open Go.RowKit
theorem uO (x:Wo) (who:Int) (a b d e:Option Addr) (p q r s:Nat) (w:World) (h1:gG w w a x.ch.cells) (z1:a=none→p=0) (h2:gI w w b x.ch.words) (L:b=none→q=0) (h3:qX w w d x.hands) (M:d=none→x.hands.length=0∧r=0) (G:uh w w e x.deals) (N:e=none→x.deals.length=0∧s=0) (H:x.ch.cells.length≤1099511627776) (I:x.ch.words.length≤1099511627776) (J:x.hands.length≤1099511627776) (K:x.deals.length≤1099511627776) (ht:bW x who=true) (F:0≤x.now∧x.now≤20000) :
  Calls prog 135 #[oI x a b d e p q r s,.int .i64 who] w fun r w'=>ig w w' (bP x who).1 (.bool (bP x who).2) r:=by
 cases hc:(fu x.ch (aJ x who)).2.2 with
 | false=>exact JW x who _ a b d e p q r s w h1 z1 h2 L h3 M G N H I J K ht rfl hc
 | true =>
  cases O:x.now == 20000 with
  | true=>exact E8 x who _ a b d e p q r s w h1 z1 h2 L h3 M G N H I J K ht rfl hc O
  | false =>
   cases R:(fu x.ch (aJ x who)).2.1.pos != 0 with
   | true=>exact JX x who _ a b d e p q r s w h1 z1 h2 L h3 M G N H I J K ht rfl hc O F R
   | false =>
    cases T:decide (1000≤x.deals.length) with
    | true=>exact EW x who _ a b d e p q r s w h1 z1 h2 L h3 M G N H I J K ht rfl hc O F R T
    | false =>
     cases hr:jT (aJ x who).code (aJ x who).elem (fu x.ch (aJ x who)).2.1.reply with
     | true=>exact EU x who _ a b d e p q r s w h1 z1 h2 L h3 M G N H I J K ht rfl hc O F R T hr
     | false=>exact Cr x who _ a b d e p q r s w h1 z1 h2 L h3 M G N H I J K ht rfl hc O F R T hr
end
section
open Go.RowKit
attribute [local simp] dz
attribute [local go_sem ↓] dA dO dP jv bK
attribute [local go_sem] iG
theorem dY.rep {w:World} {lo g q k:Nat} {h:Ha} (o:w.ownsRow lo 49 14 (.slice (some ⟨g,0,none⟩) ((List.replicate k h).length+1) q) ((List.replicate k h).length+1) (lS (List.replicate k h) ++ (aB h).toList)):dY w lo (.slice (some ⟨g,0,none⟩) (k+1) q) (List.replicate (k+1) h):=by
 have e:lS (List.replicate (k+1) h)=lS (List.replicate k h) ++ (aB h).toList:=by rw [List.replicate_succ'];simp [lS]
 unfold dY;rw [e];simpa using o
theorem vO (cap tasks:Int) (w:World) (h0:0≤cap) (h1:cap≤4) (h2:1≤tasks) (h3:tasks≤6) :
  Calls prog 78 #[.int .i64 cap,.int .i64 tasks] w fun r w'=>ig w w' (dS cap tasks).1 (.bool (dS cap tasks).2) r:=by
 have e1:dV cap 0 4=true:=lF h0 h1;have e2:dV tasks 1 6=true:=lF h2 h3;have e:dS cap tasks=(⟨fI cap,List.replicate tasks.toNat (aM 0 0),[],0⟩,true):=by simp [dS,e1,e2]
 rw [e];have el:(fI cap).cells.length=40:=by simp [fI,e1]
 go_enter func78,ntmps78
 go_wp2_with fail;refine aK w zB fun bb=>?_;refine (DK cap _).mono ?_;rintro _ N ⟨⟨v1,v2,rfl,o1,o2⟩,R⟩;have ab:Below w w N:=bT bb R;have a2:=R.size;(try simp at a2);have X:=hQ R (b:=w);(try simp [go_sem] at X);(try clear H U T O);have H:=X;clear X;obtain ⟨U,T,O⟩:=bO H;clear R bb
 try simp at o1 o2
 have O1:=aA o1;have O2:=aA o2;obtain ⟨va,vc,rfl,_⟩:=aF.seg o1;obtain ⟨vb,vd,rfl,_⟩:=aI.seg o2;clear o1 o2;rw [el];replace O1:Hid (aF N (w+1) (.slice va 40 vc) (fI cap).cells):=by have:=O1.out;rw [el] at this;exact this
 go_wp2_with (first|(go_at_call 121;refine (iP _ _ _ _).mono ?_;rintro _ _ ⟨rfl,rfl⟩))
 obtain ⟨i5,a8,aa,a5,a0⟩:=info_parts Dj;have n1:∀ j,(Value.slice va 40 vc).ownBlock=some j→j<N.heap.size:=fun j hj=>(O1.out.lt j hj).2
 have n2:∀ j,(Value.slice vb (fI cap).words.length vd).ownBlock=some j→j<N.heap.size:=fun j hj=>(O2.out.lt j hj).2
 go_loopw [8] (fun i wr=>∃ (k:Nat) (v3:Value),k≤tasks.toNat∧i=.int .i64 k∧aF wr (w+1) (.slice va 40 vc) (fI cap).cells∧aI wr (w+1) (.slice vb (fI cap).words.length vd) (fI cap).words∧dY wr (N+1+1) v3 (List.replicate k (aM 0 0))∧hp wr (N+1)=some (.cells #[.int .i64 (fI cap).cap,.int .i64 (fI cap).sent,.int .i64 (fI cap).got,.int .i64 (fI cap).fin,.slice va 40 vc,.slice vb (fI cap).words.length vd,v3,.slice none 0 0,.int .i64 0] 35)∧hp wr w=some (.cells #[.int .i64 0,.int .i64 0,.int .i64 0,.int .i64 0,.slice none 0 0,.slice none 0 0,.slice none 0 0,.slice none 0 0,.int .i64 0] 35)∧N+1+1≤wr.heap.size∧Below w w wr) (fun i _=>tasks.toNat - (intOf i).toNat)
 case atStart =>
  refine ⟨0,.slice none 0 0,Nat.zero_le _,rfl,World.ownsRow.alloc (World.ownsRow.alloc O1.out _) _,World.ownsRow.alloc (World.ownsRow.alloc O2.out _) _,World.ownsRow_nil _ _ _ _,?_,?_,by simp,zB⟩
  all_goals (simp [go_sem, *])
 case round =>
  obtain ⟨k,v3,hk,rfl,q1,q2,q3,F,H,ak,hB⟩:=hrel;have O:w<wr.heap.size:=tO;have Z:N<wr.heap.size:=tO;have G:N+1<wr.heap.size:=tO;have U:∀ o,wr.cell? ⟨w,o,none⟩=_:=fun o=>cell_of_row wr w o _ _ _ H
  have T:∀ o,wr.frozen? ⟨w,o,none⟩=false:=dJ H;have M:∀ o,wr.cell? ⟨N+1,o,none⟩=_:=fun o=>cell_of_row wr (N+1) o _ _ _ F
  have J:∀ o,wr.frozen? ⟨N+1,o,none⟩=false:=dJ F;have Q1:=aA q1;have Q2:=aA q2;have Y:=aA q3;clear q1 q2 q3;by_cases ag:k<tasks.toNat
  ·have a9:(k:Int)<tasks:=by omega
   have ah:some w.heap.size≠v3.ownBlock:=fun e=>own_ne Y.out tO e.symm
   have ai:some N.heap.size≠v3.ownBlock:=fun e=>own_ne Y.out tO e.symm
   have aj:some (N.heap.size+1)≠v3.ownBlock:=fun e=>own_ne Y.out tO e.symm
   have a6:=dF Q1.out Y.out cB;have a7:=dF Q2.out Y.out cB;go_wp2_with fail
   go_region_law (first|(go_simp;(go_at_call 130;refine aK w zB fun bb=>?_;refine aK wr zB fun bk=>?_;refine (iy 0 0 _).mono ?_;rintro _ w4 ⟨rfl,I⟩;have ac:Below w w w4:=bT bb I;have a3:=I.size;(try simp at a3);have X:=And.intro (hQ I (b:=N+1)) <| hQ I (b:=w);(first|simp [go_sem,F,H,O,Z,G] at X|simp [go_sem] at X|skip);(try clear F M J G);(try clear H U T O);obtain ⟨F,H⟩:=X;obtain ⟨M,J,G⟩:=bO F;obtain ⟨U,T,O⟩:=bO H;have V:Below wr wr w4:=bT bk I;clear I bb bk))|(refine step_append_lies _ ja _ _ _ ja (N+1+1) 49 i5 _ 14 112 underlying32 a8 aa a5 a0 rfl tO v3 _ _ ja (World.ownsRow.drew (World.ownsRow.alloc (own_below Y.out V) _)) ⟨w4,0,none⟩ 1 1 (aB (aM 0 0)).toList ja ja (World.news_of_block (cs:=aB (aM 0 0)) (t:=49) (fr:=(0,0)) (heap_alloc_new w4 _)) (by simp [aB,Value.oneCell']) tO (by unfold maxLen;simp;omega) dQ dQ (w4+1) cK ?_;intro g8 q8 w8 o8 g4 af ad;have a4:=g4.size;(try (simp at a4));have X:=And.intro (bM g4 (b:=N+1) tS dM) <| bM g4 (b:=w) tS dM;(first|simp [go_sem,F,H,O,Z,G] at X|simp [go_sem] at X|skip);(try clear F M J G);(try clear H U T O);obtain ⟨F,H⟩:=X;obtain ⟨M,J,G⟩:=bO F;obtain ⟨U,T,O⟩:=bO H;have B8:Below w w w8:=mO zB g4 iU (fun k hk=>by have:=(Y.out.lt k hk).1;omega)))
   all_goals (have r1:=(World.ownsRow.alloc (own_below Q1.out V) _).kept g4 a6;have r2:=(World.ownsRow.alloc (own_below Q2.out V) _).kept g4 a7;have r3:dY w8 (N+1+1) (.slice (some ⟨g8,0,none⟩) (k+1) q8) (List.replicate (k+1) (aM 0 0)):=dY.rep o8;clear o8 g4)
   all_goals go_wp2
   all_goals go_roundw
   case rel=>exact ⟨k+1,_,by omega,by go_num,aV r1 (fun e=>by have:=n1 _ e;simp at this;omega) _,aV r2 (fun e=>by have:=n2 _ e;simp at this;omega) _,aV r3 (own_ne r3 cK) _,by simp [go_sem, *],by simp [go_sem, *],by simp;omega,zB⟩
   case measure=>simp [intOf];omega
   all_goals (first|exact ⟨k+1,_,by omega,by go_num,aV r1 (fun e=>by have:=n1 _ e;simp at this;omega) _,aV r2 (fun e=>by have:=n2 _ e;simp at this;omega) _,aV r3 (own_ne r3 cK) _,by simp [go_sem, *],by simp [go_sem, *],by simp;omega,zB⟩|(simp [intOf];omega))
  ·have a1:k=tasks.toNat:=by omega
   have a9:¬ (k:Int)<tasks:=tO;have K:=aA a1;have L:=aA el;obtain ⟨vf,vg,rfl,_⟩:=dY.seg Y.out;have ae:(List.replicate k (aM 0 0)).length=k:=by simp
   clear a1 el;go_wp2;have o1:=Q1.out;have o2:=Q2.out;have o3:=Y.out;have p1:=aL (lo':=w) o1 tO;have p2:=aL (lo':=w) o2 tO;have p3:=aL (lo':=w) o3 tO;rw [← K.out];refine bodyPost_ret (v:=.tuple #[.agg #[.int .i64 (fI cap).cap,.int .i64 (fI cap).sent,.int .i64 (fI cap).got,.int .i64 (fI cap).fin,.slice va 40 vc,.slice vb (fI cap).words.length vd,.slice vf (List.replicate k (aM 0 0)).length vg,.slice none 0 0,.int .i64 0],.bool true]) (by simp [results,results78,go_sem, *]) rfl ⟨⟨_,_,_,_,rfl,?_,?_,?_,World.ownsRow_nil _ _ _ _⟩,zB⟩
   ·exact zO p1 o1
   ·exact zO p2 o2
   ·exact zO p3 o3
theorem oZ {w:World} {lo:Nat} {t:TypeId} {n k:Nat} {v:Value} {F:List Value} {f:Nat→Nat→Value} (h:w.ownsRow lo t k v n F) (I:∀ i j,i<n→j<k→F[i*k+j]?=some (f i j)):∃ (a:Option Addr) (cap:Nat),v=.slice a n cap∧Seg w w a n k f∧(a=none→n=0∧cap=0):=by
 obtain ⟨a,cap,rfl,hs⟩:=zt h I;refine ⟨a,cap,rfl,hs,fun e=>?_⟩;subst e;rcases h.2 with ⟨e,H⟩|⟨g,cap,G,e,_⟩
 ·simp at e;exact ⟨H,e.2⟩
 ·simp at e
theorem dG.opens {w:World} {lo:Nat} {v1 v2 v3 v4:Value} {y:Wo} (h:dG w lo v1 v2 v3 v4 y):∃ (a b d e:Option Addr) (p q r s:Nat),v1=.slice a y.ch.cells p∧v2=.slice b y.ch.words q∧v3=.slice d y.hands r∧v4=.slice e y.deals s∧gG w w a y.ch.cells∧(a=none→p=0)∧gI w w b y.ch.words∧(b=none→q=0)∧qX w w d y.hands∧(d=none→y.hands.length=0∧r=0)∧uh w w e y.deals∧(e=none→y.deals.length=0∧s=0):=by
 obtain ⟨h1,h2,h3,L⟩:=h;obtain ⟨a,p,H,M,z1⟩:=oZ h1 fun i j F G=>kR y.ch.cells i j F G
 obtain ⟨b,q,I,N,T⟩:=oZ (f:=lG y.ch.words) h2 fun i j F G=>by
  have:j=0:=by omega
  subst this;simp [ints,lG,List.getD,F]
 obtain ⟨d,r,J,O,U⟩:=oZ h3 fun i j F G=>nI y.hands i j F G
 obtain ⟨e,s,K,R,V⟩:=oZ L fun i j F G=>uS y.deals i j F G
 exact ⟨a,b,d,e,p,q,r,s,H,I,J,K,M,fun h=>(z1 h).2,N,fun h=>(T h).2,O,U,R,V⟩
theorem dG.lo {w:World} {lo lo':Nat} {v1 v2 v3 v4:Value} {y:Wo} (h:dG w lo v1 v2 v3 v4 y) (F:lo'≤lo):dG w lo' v1 v2 v3 v4 y:=⟨aL h.1 F,aL h.2.1 F,aL h.2.2.1 F,aL h.2.2.2 F⟩
theorem dG.below {w w':World} {lo:Nat} {v1 v2 v3 v4:Value} {y:Wo} (h:dG w lo v1 v2 v3 v4 y) (F:Below w w w'):dG w' lo v1 v2 v3 v4 y:=⟨own_below h.1 F,own_below h.2.1 F,own_below h.2.2.1 F,own_below h.2.2.2 F⟩
def Cx (b:Nat) (v1 v2 v3 v4:Value):Prop:=v1.ownBlock≠some b∧v2.ownBlock≠some b∧v3.ownBlock≠some b∧v4.ownBlock≠some b
theorem dG.store {w:World} {lo:Nat} {v1 v2 v3 v4:Value} {y:Wo} (h:dG w lo v1 v2 v3 v4 y) {p:Addr} (hp:Cx p.block v1 v2 v3 v4) (u:Value):dG (w.setCell p u) lo v1 v2 v3 v4 y:=⟨aV h.1 hp.1 u,aV h.2.1 hp.2.1 u,aV h.2.2.1 hp.2.2.1 u,aV h.2.2.2 hp.2.2.2 u⟩
theorem dG.alloc {w:World} {lo:Nat} {v1 v2 v3 v4:Value} {y:Wo} (h:dG w lo v1 v2 v3 v4 y) (o:Obj):dG (w.alloc o) lo v1 v2 v3 v4 y:=⟨World.ownsRow.alloc h.1 o,World.ownsRow.alloc h.2.1 o,World.ownsRow.alloc h.2.2.1 o,World.ownsRow.alloc h.2.2.2 o⟩
theorem dG.drew {w:World} {lo:Nat} {v1 v2 v3 v4:Value} {y:Wo} (h:dG w lo v1 v2 v3 v4 y):dG w.drew lo v1 v2 v3 v4 y:=h
theorem dG.ne {w:World} {lo b:Nat} {v1 v2 v3 v4:Value} {y:Wo} (h:dG w lo v1 v2 v3 v4 y) (F:b<lo):Cx b v1 v2 v3 v4:=⟨own_ne h.1 F,own_ne h.2.1 F,own_ne h.2.2.1 F,own_ne h.2.2.2 F⟩
theorem dG.ne' {w:World} {lo b:Nat} {v1 v2 v3 v4:Value} {y:Wo} (h:dG w lo v1 v2 v3 v4 y) (F:w.heap.size≤b):Cx b v1 v2 v3 v4:=⟨dN h.1 F,dN h.2.1 F,dN h.2.2.1 F,dN h.2.2.2 F⟩
theorem iX {y:Wo} (h:eP y):y.ch.cells.length≤1099511627776∧y.ch.words.length≤1099511627776∧y.hands.length≤1099511627776∧y.deals.length≤1099511627776:=by
 have:=nK h.ch;have:=h.h6;have:=h.d;omega
theorem Kt {n:Nat} {y:Wo} {who:Int} (hp:(aJ y who).pos≠0) (hs:(bP y who).2=true):gz (n+1) y who=((gz n (bP y who).1 who).1,(gz n (bP y who).1 who).2+1):=by
 simp [gz,hp,hs]
theorem Ig {n:Nat} {y:Wo} {who:Int} (hs:(bP y who).2=false):gz n y who=(y,0):=by
 cases n with
 | zero=>rfl
 | succ n=>simp [gz,hs]
theorem NK (x:Wo) (who most:Int) (a b d e:Option Addr) (p q r s:Nat) (w:World) (h1:gG w w a x.ch.cells) (z1:a=none→p=0) (h2:gI w w b x.ch.words) (z2:b=none→q=0) (h3:qX w w d x.hands) (z3:d=none→x.hands.length=0∧r=0) (h4:uh w w e x.deals) (z4:e=none→x.deals.length=0∧s=0) (m1:x.ch.cells.length≤1099511627776) (m2:x.ch.words.length≤1099511627776) (m3:x.hands.length≤1099511627776) (m4:x.deals.length≤1099511627776) (hk:dB x=true) (ht:bW x who=true) (ah:0≤most) (ai:most≤20000) :
  Calls prog 133 #[oI x a b d e p q r s,.int .i64 who,.int .i64 most] w fun r w'=>ig w w' (alone x who most).1 (.int .i64 (alone x who most).2) r:=by
 have H1:=aA h1;have H2:=aA h2;have H3:=aA h3;have H4:=aA h4;have Z1:=aA z1;have Z2:=aA z2;have Z3:=aA z3;have Z4:=aA z4;clear h1 h2 h3 h4 z1 z2 z3 z4;obtain ⟨i,rfl⟩:∃ i:Nat,who=(i:Int):=⟨who.toNat,by simp [bW,gP,dV] at ht;omega⟩;have hi:i<x.hands.length:=by simp [bW,gP,dV] at ht;omega
 obtain ⟨b3,o3,rfl,ar,au⟩:∃ b o,d=some ⟨b,o,none⟩∧b<w.heap.size∧Hid (∀ i j,i<x.hands.length→j<14→w.cell? ⟨b,o+i*14+j,none⟩=some (fO x.hands i j)):=by
  rcases H3.out with h0|h0
  ·omega
  ·exact h0
 have b6:∀ W:World,hp W b3=hp w b3→(nY (.pointer (some ⟨b3,o3+i*14,none⟩))).run prog W=.ok (.agg (aB (aJ x i))) W:=fun W e=>lJ _ fun j hj=>by rw [show (aB (aJ x i)).getD j (.int .i64 0)=fO x.hands i j by simp [fO,aJ],← au.out i j hi hj];exact World.cell?_of_block e
 have b7:(0:Int)≤(i:Int):=tO;have b8:(i:Int)<(x.hands.length:Int):=tO;have e0:alone x i most=((gz most.toNat x i).1,((gz most.toNat x i).2:Int)):=by simp [alone,hk,ht,lF ah ai]
 rw [e0];have ab:gP x.hands i=true:=ht;have bc:dV most 0 20000=true:=lF ah ai;clear e0;go_enter func133,ntmps133;go_wp2_with fail;refine aK w zB fun L=>?_;refine (eY x a b _ e p q r s _ (aT H1 L) (aT H2 L) (aT H3 L) (aT H4 L) m3 m4).mono ?_;rintro _ w1 ⟨rfl,T⟩;have az:Below w w w1:=bT L T;have al:=T.size;(try simp at al);have R:=And.intro (hQ T (b:=w+1)) <| hQ T (b:=w);(try simp [go_sem] at R);(try clear F J I G);(try clear N a7 a5 M);obtain ⟨F,N⟩:=R;obtain ⟨J,I,G⟩:=bO F;obtain ⟨a7,a5,M⟩:=bO N;clear T L
 rw [hk];go_wp2_with fail;refine aK w zB fun L=>?_;refine (iq x.ch x.hands x.now i _ _ _ _ _ _ _ _ _ _ _ m3 _).mono ?_;rintro _ w2 ⟨rfl,U⟩;have b0:Below w w w2:=bT L U;have am:=U.size;(try simp at am);have R:=And.intro (hQ U (b:=w+1)) <| hQ U (b:=w);(first|simp [go_sem,F,N,M,G] at R|simp [go_sem] at R|skip);(try clear F J I G);(try clear N a7 a5 M);obtain ⟨F,N⟩:=R;obtain ⟨J,I,G⟩:=bO F;obtain ⟨a7,a5,M⟩:=bO N;clear U L
 rw [ab];go_wp2_with fail;refine aK w zB fun L=>?_;refine (iR x a b _ e p q r s _ (aT H1 L) Z1.out (aT H2 L) Z2.out (aT H3 L) Z3.out (aT H4 L) Z4.out m1 m2 m3 m4).mono ?_;rintro _ X ⟨⟨v1,v2,v3,v4,rfl,o1,o2,a8,o4⟩,V⟩;have ac:Below w w X:=bT L V;have an:=V.size;(try simp at an);have R:=And.intro (hQ V (b:=w+1)) <| hQ V (b:=w);(first|simp [go_sem,F,N,M,G] at R|simp [go_sem] at R|skip);(try clear F J I G);(try clear N a7 a5 M);obtain ⟨F,N⟩:=R;obtain ⟨J,I,G⟩:=bO F;obtain ⟨a7,a5,M⟩:=bO N;clear V L
 try simp at o1 o2 a8 o4
 have O1:=aA o1;have O2:=aA o2;have O3:=aA a8;have O4:=aA o4;obtain ⟨va,vc,rfl,_⟩:=aF.seg o1;obtain ⟨vb,vd,rfl,_⟩:=aI.seg o2;obtain ⟨vf,vg,rfl,_⟩:=dY.seg a8;obtain ⟨vh,vi,rfl,_⟩:=gU.seg o4;clear o1 o2 a8 o4;have z3:hp X b3=hp w b3:=ac.block b3 ar;have bf:b3<X.heap.size:=tO;have pq:b3≠X.heap.size:=tO;have hr:=(eZ x).1 hk;go_wp2_with (go_at_call 81;refine (rP _ _).mono ?_;rintro _ _ ⟨rfl,rfl⟩);have ae:dG X (w+1+1) (.slice va x.ch.cells vc) (.slice vb x.ch.words vd) (.slice vf x.hands vg) (.slice vh x.deals vi) x:=dG.lo (lo:=w2) ⟨O1.out,O2.out,O3.out,O4.out⟩ tO
 clear O1 O2 O3 O4;go_loopw [9] (fun n wr=>∃ (k:Nat) (y:Wo) (v1 v2 v3 v4:Value),k≤most.toNat∧n=.int .i64 k∧eP y∧y.hands.length=x.hands.length∧gz most.toNat x i=((gz (most.toNat - k) y i).1,(gz (most.toNat - k) y i).2+k)∧dG wr (w+1+1) v1 v2 v3 v4 y∧Cx X v1 v2 v3 v4∧hp wr X=some (.cells #[y.ch.cap,y.ch.sent,y.ch.got,y.ch.fin,v1,v2,v3,v4,y.now] 35)∧hp wr (w+1)=some (.cells #[.int .i64 0,.int .i64 0,.int .i64 0,.int .i64 0,.slice none 0 0,.slice none 0 0,.slice none 0 0,.slice none 0 0,.int .i64 0] 35)∧X+1≤wr.heap.size∧Below w w wr) (fun n _=>most.toNat - (intOf n).toNat)
 case atStart =>
  refine ⟨0,x,_,_,_,_,Nat.zero_le _,rfl,hr,rfl,by simp,dG.alloc ae _,ae.ne' (Nat.le_refl _),heap_alloc_new X _,?_,by simp,zB⟩;simp [go_sem, *]
 case round =>
  obtain ⟨k,y,v1,v2,v3,v4,b9,rfl,hy,ao,af,Z,aa,K,F,be,hB⟩:=hrel;obtain ⟨y1,y2,y3,y4⟩:=iX hy;have M:w<wr.heap.size:=tO;have G:w+1<wr.heap.size:=tO;have O:X<wr.heap.size:=tO;have J:∀ o,wr.cell? ⟨w+1,o,none⟩=_:=fun o=>cell_of_row wr (w+1) o _ _ _ F
  have I:∀ o,wr.frozen? ⟨w+1,o,none⟩=false:=dJ F;have Y:∀ o,wr.frozen? ⟨X,o,none⟩=false:=dJ K;have OW:=aA Z;obtain ⟨a1,a2,a3,a4,c1,c2,c3,c4,rfl,rfl,rfl,rfl,s1,t1,s2,t2,s3,t3,s4,t4⟩:=Z.opens;have a0:∀ o,wr.cell? ⟨X,o,none⟩=_:=fun o=>cell_of_row wr X o _ _ _ K
  have OF:=aA aa;have av:i<y.hands.length:=tO;obtain ⟨g,gq,eg,_,lg,ag,_⟩:=dY.open1 Z.2.2.1 av;simp at eg;obtain ⟨rfl,rfl⟩:=eg;have ay:wr.cell? ⟨g,i*14,none⟩=some (.int .i64 (aJ y i).pos):=(ag 0 tO).trans (by simp [aJ,aB,Array.getD]);have Xf:(i:Int)<(y.hands.length:Int):=tO;have AL:=aA af;clear af Z aa ag;have S1:=aA s1;have S2:=aA s2;have S3:=aA s3;have S4:=aA s4;clear s1 s2 s3 s4;have HL:=aA ao;clear ao
  have N1:=OW.out.ne (b:=w+1) tO;have OL:=OW.out.lo (lo':=w) tO;by_cases ba:k<most.toNat
  ·have aw:(k:Int)<most:=by omega
   by_cases ak:(aJ y i).pos=0
   ·have ea:gz most.toNat x i=(y,k):=by rw [AL.out,Al ak];simp
    go_wp2
    (try rw [ea])
    exact Og
   ·have hY:=uO y i a1 a2 (some ⟨g,0,none⟩) a4 c1 c2 c3 c4 wr S1.out t1 S2.out t2 S3.out t3 S4.out t4 y1 y2 y3 y4 (by unfold bW;rw [HL.out];exact ab) ⟨hy.n0,hy.n1⟩
    cases hs:(bP y i).2 with
    | false =>
     rw [hs] at hY;have ea:gz most.toNat x i=(y,k):=by rw [AL.out,Ig hs];simp
     have EA:=aA ea;clear ea hs;go_wp2_with fail;refine aK w zB fun L=>?_;refine aK wr zB fun bk=>?_;refine (hY).mono ?_;rintro _ w5 ⟨⟨u1,u2,u3,u4,rfl,uo⟩,H⟩;have ad:Below w w w5:=bT L H;have a6:=H.size;(try simp at a6);have R:=And.intro (hQ H (b:=X)) <| hQ H (b:=w+1);(first|simp [go_sem,K,F,M,O,G] at R|simp [go_sem] at R|skip);(try clear K a0 Y O);(try clear F J I G);obtain ⟨K,F⟩:=R;obtain ⟨a0,Y,O⟩:=bO K;obtain ⟨J,I,G⟩:=bO F;have a9:Below wr wr w5:=bT bk H;clear H L bk
     have b5:=OL.below a9;obtain ⟨b1,b2,aq,b4,d1,d2,d3,d4,rfl,rfl,rfl,rfl,_⟩:=uo.opens;go_wp2;rw [EA.out];exact Og
    | true =>
     obtain ⟨r1,r2,_,_,_⟩:=ll hy (by unfold bW;rw [HL.out];exact ab) hs;rw [hs] at hY;obtain ⟨m,hm⟩:∃ m,most.toNat - k=m+1:=⟨most.toNat - k - 1,by omega⟩;have aj:most.toNat - (k+1)=m:=tO;have ea:gz most.toNat x i=((gz (most.toNat - (k+1)) (bP y i).1 i).1,(gz (most.toNat - (k+1)) (bP y i).1 i).2+(k+1)):=by
      rw [AL.out,hm,aj,Kt ak hs];simp;omega
     have EA:=aA ea;have R2:=aA (r2.trans HL.out);generalize (bP y i).1=y' at *;clear ea hs hm aj r2;go_wp2_with fail;refine aK w zB fun L=>?_;refine aK wr zB fun bk=>?_;refine (hY).mono ?_;rintro _ w5 ⟨⟨u1,u2,u3,u4,rfl,uo⟩,H⟩;have ad:Below w w w5:=bT L H;have a6:=H.size;(try simp at a6);have R:=And.intro (hQ H (b:=X)) <| hQ H (b:=w+1);(first|simp [go_sem,K,F,M,O,G] at R|simp [go_sem] at R|skip);(try clear K a0 Y O);(try clear F J I G);obtain ⟨K,F⟩:=R;obtain ⟨a0,Y,O⟩:=bO K;obtain ⟨J,I,G⟩:=bO F;have a9:Below wr wr w5:=bT bk H;clear H L bk
     have UO:=aA uo;obtain ⟨b1,b2,aq,b4,d1,d2,d3,d4,rfl,rfl,rfl,rfl,_⟩:=uo.opens;have ap:=UO.out.ne (b:=X) tO;have ax:=UO.out.ne' (b:=w5) tO;have UL:=UO.out.lo (lo':=w+1+1) tO;go_wp2;go_roundw
     case rel=>exact ⟨k+1,y',_,_,_,_,by omega,by go_num,r1,R2.out,EA.out,by (repeat (first|with_reducible assumption|with_reducible refine dG.alloc ?_ _|with_reducible refine dG.drew ?_|((with_reducible refine dG.store ?_ ?_ _);rotate_left;(focus (first|exact ap|exact ax))) )),ap,by simp [go_sem, *],by simp [go_sem, *],by simp;omega,zB⟩
     case measure=>simp [intOf];omega
  ·have aw:¬ (k:Int)<most:=by omega
   have ea:gz most.toNat x i=(y,k):=by
    have e0:most.toNat - k=0:=tO;rw [AL.out,e0];simp [gz]
   go_wp2
   (try rw [ea])
   exact Og
theorem Ku {x:Wo} {who:Int} (h:(bP x who).2=false):(bP x who).1=x:=by
 unfold bP stepW at h ⊢;split at h
 ·rename_i e;rw [if_pos e]
 ·rename_i e
  rw [if_neg e];split at h
  ·cases h
  ·rename_i F
   rw [if_neg F];split at h
   ·rename_i G;rw [if_pos G]
   ·cases h
theorem xD (x:Wo) (lo:Nat) (v1 v2 v3 v4:Value) (w:World) (h:dG w lo v1 v2 v3 v4 x) (al:lo≤w.heap.size) (hx:eP x) :
  Calls prog 83 #[.agg #[x.ch.cap,x.ch.sent,x.ch.got,x.ch.fin,v1,v2,v3,v4,x.now]] w fun r w'=>(∃ u1 u2 u3 u4,r=.returned (.tuple #[.agg #[.int .i64 (kG x).1.ch.cap,.int .i64 (kG x).1.ch.sent,.int .i64 (kG x).1.ch.got,.int .i64 (kG x).1.ch.fin,u1,u2,u3,u4,.int .i64 (kG x).1.now],.bool (kG x).2])∧dG w' lo u1 u2 u3 u4 (kG x).1)∧Below w w w':=by
 have HO:=aA h;have n0:=h.ne' (b:=w) (Nat.le_refl _);have n1:=h.ne' (b:=w+1) tO;clear h;obtain ⟨a,b,d,e,p,q,r,s,rfl,rfl,rfl,rfl,_⟩:=HO.out.opens;go_enter func83,ntmps83;go_wp2;go_loopw [4,5] (fun sm i wr=>∃ (k:Nat) (y:Wo) (t:Bool) (u1 u2 u3 u4:Value),k≤x.hands.length∧i=.int .i64 k∧sm=.bool t∧eP y∧y.hands.length=x.hands.length∧kG x=((tu (x.hands.length - k) k y).1,t || (tu (x.hands.length - k) k y).2)∧dG wr lo u1 u2 u3 u4 y∧Cx w u1 u2 u3 u4∧Cx (w+1) u1 u2 u3 u4∧hp wr w=some (.cells #[y.ch.cap,y.ch.sent,y.ch.got,y.ch.fin,u1,u2,u3,u4,y.now] 35)∧hp wr (w+1)=some (.cells #[.int .i64 0,.int .i64 0,.int .i64 0,.int .i64 0,.slice none 0 0,.slice none 0 0,.slice none 0 0,.slice none 0 0,.int .i64 0] 35)∧w+1<wr.heap.size∧Below w w wr) (fun _ i _=>x.hands.length - (intOf i).toNat)
 case atStart =>
  refine ⟨0,x,false,_,_,_,_,Nat.zero_le _,rfl,rfl,hx,rfl,by simp [kG],dG.alloc (dG.alloc HO.out _) _,n0,n1,?_,?_,by simp,zB⟩
  all_goals (simp [go_sem, *])
 case round =>
  obtain ⟨k,y,t,u1,u2,u3,u4,hk,rfl,rfl,Z,aa,a5,L,U,V,J,F,ag,hB⟩:=hrel;obtain ⟨y1,y2,y3,y4⟩:=iX Z;have X:w<wr.heap.size:=tO;have M:w+1<wr.heap.size:=tO;have T:∀ o,wr.cell? ⟨w+1,o,none⟩=_:=fun o=>cell_of_row wr (w+1) o _ _ _ F
  have R:∀ o,wr.frozen? ⟨w+1,o,none⟩=false:=dJ F;have a0:∀ o,wr.frozen? ⟨w,o,none⟩=false:=dJ J;have OW:=aA L;obtain ⟨a1,a2,a3,a4,c1,c2,c3,c4,rfl,rfl,rfl,rfl,s1,t1,s2,t2,s3,t3,s4,t4⟩:=L.opens;have ab:∀ o,wr.cell? ⟨w,o,none⟩=_:=fun o=>cell_of_row wr w o _ _ _ J
  have AL:=aA a5;have HL:=aA aa;clear a5 L;have S1:=aA s1;have S2:=aA s2;have S3:=aA s3;have S4:=aA s4;clear s1 s2 s3 s4;by_cases am:k<x.hands.length
  ·have ae:k<y.hands.length:=by omega
   obtain ⟨m,hm⟩:∃ m,x.hands.length - k=m+1:=⟨x.hands.length - k - 1,by omega⟩;have N:x.hands.length - (k+1)=m:=tO;obtain ⟨g,gq,eg,_,lg,a6,_⟩:=dY.open1 OW.out.2.2.1 ae;simp at eg;obtain ⟨rfl,rfl⟩:=eg;have ah:wr.cell? ⟨g,k*14,none⟩=some (.int .i64 (aJ y (k:Int)).pos):=(a6 0 tO).trans (by simp [aJ,aB,Array.getD]);clear a6;have ak:(0:Int)≤(k:Int):=tO;have af:(k:Int)<(y.hands.length:Int):=tO;clear aa;by_cases a7:(aJ y (k:Int)).pos=0
   ·have O:kG x=((tu (x.hands.length - (k+1)) (k+1) y).1,t || (tu (x.hands.length - (k+1)) (k+1) y).2):=by rw [AL.out,hm,N];simp [tu,a7]
    have Y:=aA O;clear O hm N;go_wp2;go_roundw
    case rel=>exact ⟨k+1,y,t,_,_,_,_,by omega,by go_num,rfl,Z,HL.out,Y.out,OW.out,U,V,J,F,ag,hB⟩
    case measure=>simp [intOf];omega
   ·have hY:=uO y k a1 a2 (some ⟨g,0,none⟩) a4 c1 c2 c3 c4 wr S1.out t1 S2.out t2 S3.out t3 S4.out t4 y1 y2 y3 y4 (by simp [bW,gP,dV];omega) ⟨Z.n0,Z.n1⟩
    have a8:eP (bP y (k:Int)).1∧(bP y (k:Int)).1.hands.length=x.hands.length:=by
     cases hs:(bP y (k:Int)).2 with
     | true=>obtain ⟨r1,r2,_⟩:=ll Z (by simp [bW,gP,dV];omega) hs;exact ⟨r1,r2.trans HL.out⟩
     | false=>rw [show (bP y (k:Int)).1=y from Ku hs];exact ⟨Z,HL.out⟩
    have O:kG x=((tu (x.hands.length - (k+1)) (k+1) (bP y (k:Int)).1).1,(t || (bP y (k:Int)).2) || (tu (x.hands.length - (k+1)) (k+1) (bP y (k:Int)).1).2):=by rw [AL.out,hm,N];simp [tu,a7,Bool.or_assoc]
    have Y:=aA O;have HR:=aA a8;clear O a8 hm N;generalize ac:(bP y (k:Int)).1=y' at *;generalize ad:(bP y (k:Int)).2=t' at *;clear ac ad;go_wp2_with fail;refine aK w zB fun bb=>?_;refine aK wr zB fun bk=>?_;refine (hY).mono ?_;rintro _ w5 ⟨⟨b1,b2,b3,b4,rfl,uo⟩,G⟩;have ai:Below w w w5:=bT bb G;have a9:=G.size;(try simp at a9);have zz:=And.intro (hQ G (b:=w+1)) <| hQ G (b:=w);(first|simp [go_sem,F,J,X,M] at zz|simp [go_sem] at zz|skip);(try clear F T R M);(try clear J ab a0 X);obtain ⟨F,J⟩:=zz;obtain ⟨T,R,M⟩:=bO F;obtain ⟨ab,a0,X⟩:=bO J;have aj:Below wr wr w5:=bT bk G;clear G bb bk
    have UO:=aA uo;obtain ⟨e1,e2,e3,e4,d1,d2,d3,d4,rfl,rfl,rfl,rfl,_⟩:=uo.opens;have H:=UO.out.ne (b:=w) tO;have I:=UO.out.ne (b:=w+1) tO;have K:=UO.out.ne' (b:=w5) tO;have UL:=UO.out.lo (lo':=lo) tO;cases t <;> cases t'
    all_goals go_wp2
    all_goals go_roundw
    case rel=>exact ⟨k+1,y',_,_,_,_,_,by omega,by go_num,rfl,HR.out.1,HR.out.2,Y.out,by (repeat (first|with_reducible assumption|with_reducible refine dG.alloc ?_ _|with_reducible refine dG.drew ?_|((with_reducible refine dG.store ?_ ?_ _);rotate_left;(focus (first|exact U|exact V|exact H|exact I|exact K)))|((with_reducible refine dG.box ?_ ?_);rotate_left;(focus (first|exact U|exact V|exact H|exact I|exact K))))),H,I,by simp [go_sem, *],by simp [go_sem, *],by simp;omega,zB⟩
    case measure=>simp [intOf];omega
    all_goals (first|exact ⟨k+1,y',_,_,_,_,_,by omega,by go_num,rfl,HR.out.1,HR.out.2,Y.out,by (repeat (first|with_reducible assumption|with_reducible refine dG.alloc ?_ _|with_reducible refine dG.drew ?_|((with_reducible refine dG.store ?_ ?_ _);rotate_left;(focus (first|exact U|exact V|exact H|exact I|exact K)))|((with_reducible refine dG.box ?_ ?_);rotate_left;(focus (first|exact U|exact V|exact H|exact I|exact K))))),H,I,by simp [go_sem, *],by simp [go_sem, *],by simp;omega,zB⟩|(simp [intOf];omega))
  ·have af:¬ (k:Int)<(y.hands.length:Int):=by omega
   have O:kG x=(y,t):=by
    rw [AL.out,show x.hands.length - k=0 by omega];simp [tu]
   have Y:=aA O;clear O;have OL:=OW.out;go_wp2;rw [Y.out];refine bodyPost_ret (v:=.tuple #[.agg #[y.ch.cap,y.ch.sent,y.ch.got,y.ch.fin,.slice a1 y.ch.cells c1,.slice a2 y.ch.words c2,.slice a3 y.hands c3,.slice a4 y.deals c4,y.now],.bool t]) (by simp [results,results83,go_sem, *]) rfl ⟨⟨_,_,_,_,rfl,?_⟩,zB⟩
   (repeat (first|with_reducible assumption|with_reducible refine dG.alloc ?_ _|with_reducible refine dG.drew ?_|((with_reducible refine dG.store ?_ ?_ _);rotate_left;(focus (first|exact U|exact V|exact H|exact I|exact K)))|((with_reducible refine dG.box ?_ ?_);rotate_left;(focus (first|exact U|exact V|exact H|exact I|exact K)))))
end
end Go.Proofs.YtffhjmepfojhnaaGreat
