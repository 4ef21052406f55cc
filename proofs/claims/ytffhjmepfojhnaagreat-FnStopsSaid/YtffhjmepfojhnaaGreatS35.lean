/-
  A step of a world that ends, of the reference model; lists lie in memory and hold at most 2 ^ 40 elements.
-/
import Derived.Test.YtffhjmepfojhnaaGreatS30
import Derived.Test.YtffhjmepfojhnaaGreatS33
import Derived.Test.YtffhjmepfojhnaaGreatS03
set_option maxRecDepth 100000
set_option maxHeartbeats 4000000
set_option linter.unusedSimpArgs false
set_option linter.unusedVariables false
namespace Go.Proofs.YtffhjmepfojhnaaGreat
open _root_.Go.Proofs.Tryz
section
open Go.RowKit
attribute [local simp] aP
attribute [local go_sem ↓] aQ aY aZ gK aN
attribute [local go_sem] fF
attribute [local go_sem] sw nZ jL
theorem qV (x:Wo) (who:Int) (S:St) (a b d e:Option Addr) (p q r s:Nat) (w:World) (h1:fA w w a x.ch.cells) (z1:a=none→p=0) (h2:fD w w b x.ch.words) (z2:b=none→q=0) (h3:pF w w d x.hands) (z3:d=none→x.hands.length=0∧r=0) (h4:pG w w e x.deals) (z4:e=none→x.deals.length=0∧s=0) (m1:x.ch.cells.length≤1099511627776) (m2:x.ch.words.length≤1099511627776) (m3:x.hands.length≤1099511627776) (m4:x.deals.length≤1099511627776) (ht:cK x who=true) (hS:fZ x.ch (aL x who)=S) (hc:S.2.2=true) (hn:(x.now == 20000)=false) (bf:0≤x.now∧x.now≤20000) (hx:(S.2.1.pos != 0)=false) :
    (∀ (hf:decide (1000≤x.deals.length)=true),Calls prog 135 #[kZ x a b d e p q r s,.int .i64 who] w fun r w'=>fE w w' (stepW x who S).1 (.bool (stepW x who S).2) r) ∧
    (∀ (hf:decide (1000≤x.deals.length)=false) (hr:kM (aL x who).code (aL x who).elem S.2.1.reply=false),Calls prog 135 #[kZ x a b d e p q r s,.int .i64 who] w fun r w'=>fE w w' (stepW x who S).1 (.bool (stepW x who S).2) r):=by
  constructor
  case' left =>
    intro hf
    have mA:Hid (0=0):=rfl
  case' right =>
    intro hf hr
    have mB:Hid (0=0):=rfl
  all_goals
    have H1:=aA h1
    have H2:=aA h2
    have H3:=aA h3
    have H4:=aA h4
    have Z1:=aA z1
    have Z2:=aA z2
    have Z3:=aA z3
    have Z4:=aA z4
    clear h1 h2 h3 h4 z1 z2 z3 z4
    obtain ⟨i,rfl⟩:∃ i:Nat,who=(i:Int):=⟨who.toNat,by simp [cK,eH,dA] at ht;omega⟩
    have hi:i<x.hands.length:=by simp [cK,eH,dA] at ht;omega
    obtain ⟨b3,o3,rfl,ag,ap⟩:∃ b o,d=some ⟨b,o,none⟩∧b<w.heap.size∧Hid (∀ i j,i<x.hands.length→j<14→w.cell? ⟨b,o+i*14+j,none⟩=some (dY x.hands i j)):=by
      rcases H3.out with h0|h0
      · omega
      · exact h0
    have b9:∀ W:World,hp W b3=hp w b3→(jU (.pointer (some ⟨b3,o3+i*14,none⟩))).run prog W=.ok (.agg (aB (aL x i))) W:=fun W e=>jh _ fun j hj=>by rw [show (aB (aL x i)).getD j (.int .i64 0)=dY x.hands i j by simp [dY,aL],← ap.out i j hi hj];exact World.cell?_of_block e
    have ba:(0:Int)≤(i:Int):=by omega
    have bc:(i:Int)<(x.hands.length:Int):=by omega
    first
    | (replace mA:=mA;have e0:stepW x i S=(x,false):=by simp at hn hx hf;simp [stepW,hc,hn,hx,hf])
    | (replace mB:=mB;have e0:stepW x i S=(x,false):=by simp at hn hx hf;simp [stepW,hc,hn,hx,hf,hr])
    rw [e0]
    clear e0
    have T:=aA fun a b p q W=>om x.ch (aL x i) a b p q W
    rw [hS] at T
    clear hS
    have bh:b3<w.heap.size+1:=by omega
    have bi:b3<w.heap.size+1+1:=by omega
    have PD:b3≠w.heap.size:=by omega
    have uV:b3≠w.heap.size+1:=by omega
    go_enter func135,ntmps135
    go_wp2_with fail;refine aK w zB fun bb=>?_;refine (T.out a b p q _ (aT H1 bb) Z1.out (aT H2 bb) Z2.out).mono ?_;rintro _ R ⟨⟨y1,y2,rfl,aa,ab,_,_⟩,a1⟩;have af:Below w w R:=bT bb a1;have aj:=a1.size;(try simp at aj);have zz:=And.intro (hQ a1 (b:=w+1+1)) <| And.intro (hQ a1 (b:=w+1)) <| hQ a1 (b:=w);(try simp [go_sem] at zz);(try clear u z E m);(try clear D G H A);(try clear O Y a0 N);obtain ⟨u,D,O⟩:=zz;obtain ⟨z,E,m⟩:=bO u;obtain ⟨G,H,A⟩:=bO D;obtain ⟨Y,a0,N⟩:=bO O;clear a1 bb
    try simp at aa ab
    have U1:=aA aa
    have U2:=aA ab
    obtain ⟨ya,yc,rfl,_⟩:=aD.seg aa
    obtain ⟨yb,yd,rfl,_⟩:=aG.seg ab
    clear aa ab
    simp only [aF]
    have z2:hp R b3=hp w b3:=af.block b3 ag
    have bj:b3<R.heap.size:=by omega
    have ql:b3≠R.heap.size:=by omega
    have dW:b3≠R.heap.size+1:=by omega
    have bl:b3<R.heap.size+1:=by omega
    rw [hc]
    go_wp2_with fail;refine aK w zB fun bb=>?_;refine aK R zB fun bk=>?_;refine (iE x a b _ e p q r s _ (aT H1 bb) Z1.out (aT H2 bb) Z2.out (aT H3 bb) Z3.out (aT H4 bb) Z4.out m1 m2 m3 m4).mono ?_;rintro _ w3 ⟨⟨v1,v2,v3,v4,rfl,o1,o2,a9,o4⟩,L⟩;have a7:Below w w w3:=bT bb L;have ak:=L.size;(try simp at ak);have zz:=And.intro (hQ L (b:=R+1)) <| And.intro (hQ L (b:=R)) <| And.intro (hQ L (b:=w+1+1)) <| And.intro (hQ L (b:=w+1)) <| hQ L (b:=w);(first|simp [go_sem,u,D,O,N,A,m] at zz|simp [go_sem] at zz|skip);(try clear F Z U K);(try clear J a4 a2 X);(try clear u z E m);(try clear D G H A);(try clear O Y a0 N);obtain ⟨F,J,u,D,O⟩:=zz;obtain ⟨Z,U,K⟩:=bO F;obtain ⟨a4,a2,X⟩:=bO J;obtain ⟨z,E,m⟩:=bO u;obtain ⟨G,H,A⟩:=bO D;obtain ⟨Y,a0,N⟩:=bO O;have a8:Below R R w3:=bT bk L;clear L bb bk
    try simp at o1 o2 a9 o4
    have O1:=aA o1
    have O2:=aA o2
    have O3:=aA a9
    have O4:=aA o4
    obtain ⟨va,vc,rfl,_⟩:=aD.seg o1
    obtain ⟨vb,vd,rfl,_⟩:=aG.seg o2
    obtain ⟨g,vg,rfl,be,lg,ah,ai⟩:=cO.open1 a9 hi
    obtain ⟨vh,vi,rfl,_⟩:=dV.seg o4
    clear o1 o2 a9 o4
    have z3:hp w3 b3=hp w b3:=a7.block b3 ag
    have bn:g≠w.heap.size:=by omega
    have ar:w.heap.size≠g:=by omega
    have bo:g≠w.heap.size+1:=by omega
    have au:w.heap.size+1≠g:=by omega
    have bp:g≠w.heap.size+1+1:=by omega
    have av:w.heap.size+1+1≠g:=by omega
    have bq:g≠R.heap.size:=by omega
    have aw:R.heap.size≠g:=by omega
    have br:g≠R.heap.size+1:=by omega
    have ax:R.heap.size+1≠g:=by omega
    have bt:g≠w3.heap.size:=by omega
    have ay:w3.heap.size≠g:=by omega
    have b2:w.heap.size<g:=by omega
    have b5:w.heap.size+1<g:=by omega
    have b6:w.heap.size+1+1<g:=by omega
    have b7:R.heap.size<g:=by omega
    have b8:R.heap.size+1<g:=by omega
    have bm:g<w3.heap.size+1:=by omega
    have ao:∀ (W:World) (y:Ha),hp W g=hp w3 g→(pY (.pointer (some ⟨g,i*14,none⟩)) (.agg (aB y))).run prog W=.ok () (ig W g (i*14) y):=fun W y e=>qp y (fun j hj=>⟨_,(World.cell?_of_block (show W.heap[g]?=w3.heap[g]? from e)).trans (ah j hj)⟩) (fun j=>(World.frozen?_of_block (show W.heap[g]?=w3.heap[g]? from e)).trans (ai j))
    first
    | (replace mA:=mA;have aq:(1000:Int)≤(x.deals.length:Int):=by simp at hf;omega)
    | (replace mB:=mB;have aq:¬ (1000:Int)≤(x.deals.length:Int):=by simp at hf;omega)
    go_wp2_with fail
    obtain ⟨w5,a3⟩:∃ w5,w5=ig (w3.alloc (.cells #[.int .i64 S.1.cap,.int .i64 S.1.sent,.int .i64 S.1.got,.int .i64 S.1.fin,.slice ya S.1.cells yc,.slice yb S.1.words yd,.slice (some ⟨g,0,none⟩) x.hands vg,.slice vh x.deals vi,.int .i64 (x.now+1)] 35)) g (i*14) S.2.1:=⟨_,rfl⟩
    rw [← a3]
    have ae:∀ o,w5.cell? ⟨w3,o,none⟩=#[Value.int .i64 S.1.cap,.int .i64 S.1.sent,.int .i64 S.1.got,.int .i64 S.1.fin,.slice ya S.1.cells yc,.slice yb S.1.words yd,.slice (some ⟨g,0,none⟩) x.hands vg,.slice vh x.deals vi,.int .i64 (x.now+1)][o]?:=fun o=>by rw [a3];simp [go_sem, *]
    have ad:∀ o,w5.frozen? ⟨w3,o,none⟩=false:=fun o=>by rw [a3];simp [go_sem, *]
    have a6:hp w5 w3=some (.cells #[.int .i64 S.1.cap,.int .i64 S.1.sent,.int .i64 S.1.got,.int .i64 S.1.fin,.slice ya S.1.cells yc,.slice yb S.1.words yd,.slice (some ⟨g,0,none⟩) x.hands vg,.slice vh x.deals vi,.int .i64 (x.now+1)] 35):=by
      rw [a3]
      exact (bE (fM _ g (i*14) S.2.1) (by simp) (by simpa using ay)).trans (heap_alloc_new w3 _)
    have V:w3.grownBy w5 (some g):=by rw [a3];exact gT (gA (gR _ _)) (fM _ g (i*14) S.2.1)
    have a5:w3<w5.heap.size:=by rw [a3,jL];simp
    have bg:w3+1≤w5.heap.size:=a5
    have bx:some (w.heap.size)≠some g:=by simpa using ar
    have bz:some (w.heap.size+1)≠some g:=by simpa using au
    have c1:some (w.heap.size+1+1)≠some g:=by simpa using av
    have c6:some (R.heap.size)≠some g:=by simpa using aw
    have c7:some (R.heap.size+1)≠some g:=by simpa using ax
    have o1:=own_below U1.out a8
    have o2:=own_below U2.out a8
    have o3:=O3.out
    have o4:=O4.out
    have e1:=gI (g:=g) (dD o1 o3 (by decide)) rfl
    have e2:=gI (g:=g) (dD o2 o3 (by decide)) rfl
    have e4:=gI (g:=g) (dD o4 o3 (by decide)) rfl
    have r1:=o1.kept V (.inr e1)
    have r2:=o2.kept V (.inr e2)
    have r4:=o4.kept V (.inr e4)
    have r3:cO w5 (R+1+1) (.slice (some ⟨g,0,none⟩) x.hands vg) (x.hands.set i S.2.1):=by rw [a3];exact cO.set (World.ownsRow.alloc o3 _) hi _
    have R1:=aA r1
    have R2:=aA r2
    have R3:=aA r3
    have R4:=aA r4
    have B5:Below w w w5:=iN a7 V tO (fun k hk=>by simp at hk;omega)
    have b4:∀ j,(Value.slice vh x.deals vi).ownBlock=some j→R.heap.size+1+1≤j∧j<w3.heap.size:=fun j hj=>o4.lt j hj
    have bu:(Value.slice ya S.1.cells yc).ownBlock≠some w3.heap.size:=fun e=>by have:=(o1.lt _ e).2;omega
    have bv:(Value.slice yb S.1.words yd).ownBlock≠some w3.heap.size:=fun e=>by have:=(o2.lt _ e).2;omega
    have bw:(Value.slice (some ⟨g,0,none⟩) x.hands vg).ownBlock≠some w3.heap.size:=fun e=>by have:=(o3.lt _ e).2;omega
    clear a3 o1 o2 o3 o4 r1 r2 r3 r4 e1 e2 e4 O1 O2 O3 O4 U1 U2 ao ah ai a7 a8
    have al:=V.size;(try (simp at al));have zz:=And.intro (bE V (b:=R+1) tS (by assumption)) <| And.intro (bE V (b:=R) tS (by assumption)) <| And.intro (bE V (b:=w+1+1) tS (by assumption)) <| And.intro (bE V (b:=w+1) tS (by assumption)) <| bE V (b:=w) tS (by assumption);(first|simp [go_sem,F,J,u,D,O,N,X,K,A,m] at zz|simp [go_sem] at zz|skip);(try clear F Z U K);(try clear J a4 a2 X);(try clear u z E m);(try clear D G H A);(try clear O Y a0 N);obtain ⟨F,J,u,D,O⟩:=zz;obtain ⟨Z,U,K⟩:=bO F;obtain ⟨a4,a2,X⟩:=bO J;obtain ⟨z,E,m⟩:=bO u;obtain ⟨G,H,A⟩:=bO D;obtain ⟨Y,a0,N⟩:=bO O
    clear V
    first
    | replace mA:=mA
    | (replace mB:=mB
       go_wp2_with fail;refine aK w zB fun bb=>?_;refine aK w5 zB fun bk=>?_;refine (oz (aL x i).code (aL x i).elem S.2.1.reply _).mono ?_;rintro _ w6 ⟨rfl,I⟩;have az:Below w w w6:=bT bb I;have am:=I.size;(try simp at am);have zz:=And.intro (hQ I (b:=w3)) <| And.intro (hQ I (b:=R+1)) <| And.intro (hQ I (b:=R)) <| And.intro (hQ I (b:=w+1+1)) <| And.intro (hQ I (b:=w+1)) <| hQ I (b:=w);(first|simp [go_sem,a6,F,J,u,D,O,N,X,K,a5,A,m] at zz|simp [go_sem] at zz|skip);(try clear a6 ae ad a5);(try clear F Z U K);(try clear J a4 a2 X);(try clear u z E m);(try clear D G H A);(try clear O Y a0 N);obtain ⟨a6,F,J,u,D,O⟩:=zz;obtain ⟨ae,ad,a5⟩:=bO a6;obtain ⟨Z,U,K⟩:=bO F;obtain ⟨a4,a2,X⟩:=bO J;obtain ⟨z,E,m⟩:=bO u;obtain ⟨G,H,A⟩:=bO D;obtain ⟨Y,a0,N⟩:=bO O;have b1:Below w5 w5 w6:=bT bk I;clear I bb bk
       rw [hr])
    go_wp2_with fail;refine aK w zB fun bb=>?_;refine (iE x a b _ e p q r s _ (aT H1 bb) Z1.out (aT H2 bb) Z2.out (aT H3 bb) Z3.out (aT H4 bb) Z4.out m1 m2 m3 m4).mono ?_;rintro _ w7 ⟨⟨v1,v2,v3,v4,rfl,u1,u2,ac,u4⟩,M⟩;have b0:Below w w w7:=bT bb M;have an:=M.size;(try simp at an);have zz:=And.intro (fun o=>M.cell (p:=⟨w+1+1,o,none⟩) tS) <| And.intro (fun o=>M.frozen (p:=⟨w+1+1,o,none⟩) tS) <| And.intro (fun o=>M.cell (p:=⟨w+1,o,none⟩) tS) <| And.intro (fun o=>M.frozen (p:=⟨w+1,o,none⟩) tS) <| And.intro (fun o=>M.cell (p:=⟨w,o,none⟩) tS) <| fun o=>M.frozen (p:=⟨w,o,none⟩) tS;(first|simp [go_sem,z,E,G,H,Y,a0,N,A,m] at zz|simp [go_sem,z,G,Y,N,A,m] at zz|simp [go_sem] at zz|skip);(try clear z E);(try clear G H);(try clear Y a0);obtain ⟨z,E,G,H,Y,a0⟩:=zz;(try clear m);have m:w+1+1<w7.heap.size:=tO;(try clear A);have A:w+1<w7.heap.size:=tO;(try clear N);have N:w<w7.heap.size:=tO;clear M bb
    try simp at u1 u2 ac u4
    have O1:=aA u1
    have O2:=aA u2
    have O3:=aA ac
    have O4:=aA u4
    obtain ⟨va,vc,rfl,_⟩:=aD.seg u1
    obtain ⟨vb,vd,rfl,_⟩:=aG.seg u2
    obtain ⟨vf,vg,rfl,_⟩:=cO.seg ac
    obtain ⟨vh,vi,rfl,_⟩:=dV.seg u4
    clear u1 u2 ac u4
    go_wp2
    have o1:=O1.out
    have o2:=O2.out
    have o3:=O3.out
    have o4:=O4.out
    first
    | (replace mA:=mA;refine bodyPost_ret (v:=.tuple #[.agg #[x.ch.cap,x.ch.sent,x.ch.got,x.ch.fin,.slice va x.ch.cells vc,.slice vb x.ch.words vd,.slice vf x.hands vg,.slice vh x.deals vi,.int .i64 (x.now)],.bool false]) (by simp [results,results135,go_sem, *]) rfl ⟨⟨_,_,_,_,rfl,aH (lo:=w5) ?_ tO,aH (lo:=w5) ?_ tO,aH (lo:=w5) ?_ tO,aH (lo:=w5) ?_ tO⟩,by exact zB⟩)
    | (replace mB:=mB;refine bodyPost_ret (v:=.tuple #[.agg #[x.ch.cap,x.ch.sent,x.ch.got,x.ch.fin,.slice va x.ch.cells vc,.slice vb x.ch.words vd,.slice vf x.hands vg,.slice vh x.deals vi,.int .i64 (x.now)],.bool false]) (by simp [results,results135,go_sem, *]) rfl ⟨⟨_,_,_,_,rfl,aH (lo:=w6) ?_ tO,aH (lo:=w6) ?_ tO,aH (lo:=w6) ?_ tO,aH (lo:=w6) ?_ tO⟩,by exact zB⟩)
    · exact zO o1 o1
    · exact zO o2 o2
    · exact zO o3 o3
    · exact zO o4 o4
theorem Bj (x:Wo) (who:Int) (S:St) (a b d e:Option Addr) (p q r s:Nat) (w:World) (h1:fA w w a x.ch.cells) (M:a=none→p=0) (u:fD w w b x.ch.words) (N:b=none→q=0) (y:pF w w d x.hands) (O:d=none→x.hands.length=0∧r=0) (z:pG w w e x.deals) (R:e=none→x.deals.length=0∧s=0) (I:x.ch.cells.length≤1099511627776) (J:x.ch.words.length≤1099511627776) (K:x.hands.length≤1099511627776) (L:x.deals.length≤1099511627776) (G:cK x who=true) (A:fZ x.ch (aL x who)=S) (D:S.2.2=true) (F:(x.now == 20000)=false) (m:0≤x.now∧x.now≤20000) (H:(S.2.1.pos != 0)=false) (E:decide (1000≤x.deals.length)=true) :
    Calls prog 135 #[kZ x a b d e p q r s,.int .i64 who] w fun r w'=>fE w w' (stepW x who S).1 (.bool (stepW x who S).2) r:=(qV x who S a b d e p q r s w h1 M u N y O z R I J K L G A D F m H).1 E
theorem yo (x:Wo) (who:Int) (S:St) (a b d e:Option Addr) (p q r s:Nat) (w:World) (h1:fA w w a x.ch.cells) (N:a=none→p=0) (u:fD w w b x.ch.words) (O:b=none→q=0) (y:pF w w d x.hands) (R:d=none→x.hands.length=0∧r=0) (z:pG w w e x.deals) (T:e=none→x.deals.length=0∧s=0) (J:x.ch.cells.length≤1099511627776) (K:x.ch.words.length≤1099511627776) (L:x.hands.length≤1099511627776) (M:x.deals.length≤1099511627776) (H:cK x who=true) (A:fZ x.ch (aL x who)=S) (D:S.2.2=true) (F:(x.now == 20000)=false) (m:0≤x.now∧x.now≤20000) (I:(S.2.1.pos != 0)=false) (E:decide (1000≤x.deals.length)=false) (G:kM (aL x who).code (aL x who).elem S.2.1.reply=false) :
    Calls prog 135 #[kZ x a b d e p q r s,.int .i64 who] w fun r w'=>fE w w' (stepW x who S).1 (.bool (stepW x who S).2) r:=(qV x who S a b d e p q r s w h1 N u O y R z T J K L M H A D F m I).2 E G
end
section
def QU (k e:Int):Wo:=(asked (fQ 0 3).1 0 k e).1
def QV (k e:Int):Wo:=(iQ (QU k e) 0 99).1
def QE (k e:Int):Wo × Bool:=stopped (QV k e) 0
def QW (k e:Int):Wo:=(iQ (QE k e).1 0 99).1
def QX (k e:Int):Wo:=(asked (QW k e) 1 1 7).1
def QY (k e:Int):Wo:=(iQ (QX k e) 1 99).1
def QZ (k e:Int):Wo:=(asked (QY k e) 2 2 0).1
def Qh (k e:Int):Wo:=(kH (QZ k e) 99).1
def Pw (k e:Int):Bool:=bC (fQ 0 3).1 && (bC (QU k e) && (bC (QV k e) && (bC (QE k e).1 && (bC (QW k e) && (bC (QX k e) && (bC (QY k e) && (bC (QZ k e) && bC (Qh k e))))))))
def Iw (k e:Int):Bool:=(QE k e).2 && ((Qh k e).deals.length == 3 && (((Qh k e).deals.getD 0 De.zero).reply == 3 && (mZ (Qh k e).deals == [7] && o7 (Qh k e))))
theorem Kb:Pw 2 0=true:=by kernel_rfl
theorem Kc:Pw 1 5=true:=by kernel_rfl
theorem Gz:Iw 2 0=true:=by kernel_rfl
theorem G5:Iw 1 5=true:=by kernel_rfl
theorem Q9 {k e:Int} (h:(k=2∧e=0)∨(k=1∧e=5)):Pw k e=true∧Iw k e=true:=by
 rcases h with ⟨rfl,rfl⟩|⟨rfl,rfl⟩
 ·exact ⟨Kb,Gz⟩
 ·exact ⟨Kc,G5⟩
theorem PZ {k e:Int} (h:(k=2∧e=0)∨(k=1∧e=5)):∃ q r u y z A D m:Wo,
  ((asked (fQ 0 3).1 0 k e).1=q∧(iQ q 0 99).1=r∧stopped r 0=(u,true)∧(iQ u 0 99).1=y∧(asked y 1 1 7).1=z∧(iQ z 1 99).1=A∧(asked A 2 2 0).1=D∧(kH D 99).1=m) ∧
  (bC (fQ 0 3).1=true∧bC q=true∧bC r=true∧bC u=true∧bC y=true∧bC z=true∧bC A=true∧bC D=true∧bC m=true) ∧
  (m.deals.length=3∧(m.deals.getD 0 De.zero).reply=3∧mZ m.deals=[7]∧o7 m=true):=by
 obtain ⟨h1,E⟩:=Q9 h
 simp only [Pw,Bool.and_eq_true] at h1
 simp only [Iw,Bool.and_eq_true,beq_iff_eq] at E
 obtain ⟨t,a,b,c,d⟩:=E
 exact ⟨QU k e,QV k e,(QE k e).1,QW k e,QX k e,QY k e,QZ k e,Qh k e,⟨rfl,rfl,by rw [← t];rfl,rfl,rfl,rfl,rfl,rfl⟩,h1,a,b,c,d⟩
theorem DZ {c:Ch} {v:Int} (h:eY c v 2=true):fJ (dM c v 2) v=2:=by
 unfold dM
 rw [if_pos h]
 simp only [eY,kF,Bool.and_eq_true,iP,beq_iff_eq] at h
 obtain ⟨⟨h1,q⟩,_⟩:=h
 have m:(v - 1).toNat<c.words.length:=by omega
 show (c.words.set (v - 1).toNat 2).getD (v - 1).toNat 0=2
 rw [List.getD_eq_getElem?_getD,List.getElem?_set_self m]
 rfl
theorem Bl {c:Ch} {h:Ha} (y:aW c=true) (u:bM h=true) (hp:h.pos=23) (L:kF c h.mine=true) (K:fJ c h.mine=2):iO c h=(c,{ h with pos:=25 },true):=by
 have r:bM { h with pos:=25 }=true:=by
  obtain ⟨z,A,D,E,F,G,H,I,J,m,q⟩:=(hb_iff.1 u).2
  exact H6 u tO ⟨by show (1:Int)≤25;omega,by show (25:Int)≤25;omega⟩ rfl rfl ⟨z,A,D,E,F,G,H,I,J,m,q⟩
 unfold iO
 rw [if_neg (by simp [dA,hp]),if_neg (by simp [dA,hp]),if_neg (by simp [dA,hp])]
 unfold bV
 rw [if_pos (by simp [bJ,y,u,L,dA,hp]),if_pos (by simp [hp])]
 simp [jR,K,done,y,r]
theorem G6 {c:Ch} {h:Ha} (q:aW c=true) (r:bM h=true) (hp:h.pos=25) (u:kF c h.mine=true):iO c h=(cB c h.cell (pg h),aV 3 0,true):=by
 have m:aW (cB c h.cell (pg h))=true:=LF.2 ((LF.1 q).state _ _ (by unfold pg;split <;> omega))
 unfold iO
 rw [if_neg (by simp [dA,hp]),if_neg (by simp [dA,hp]),if_neg (by simp [dA,hp])]
 unfold bV
 rw [if_pos (by simp [bJ,q,r,u,dA,hp]),if_neg (by simp [hp]),if_neg (by simp [hp])]
 unfold done
 rw [m]
 rfl
theorem zJ {c:Ch} {v w u:Int}:kF (dM c v w) u=kF c u:=by
 unfold dM
 split
 ·simp [kF]
 ·rfl
theorem G7 {w:Wo} {i:Nat} (U:bC w=true) (T:i<w.hands.length) (hp:(iy w.hands i).pos=23) (F:eY w.ch (iy w.hands i).mine 2=true) (x:Wo) (m:x={ w with ch:=dM w.ch (iy w.hands i).mine 2 }) :
  ((iQ x i 9).2≠2∧(1000≤w.deals.length∨20000<w.now+2))∨((iQ x i 9).2=2∧(iQ x i 9).1.deals.length=w.deals.length+1∧(iQ x i 9).1.hands.length=w.hands.length∧(iy (iQ x i 9).1.hands i).reply=3):=by
 have R:=(gP w).1 U
 have hs:stopped w (i:Int)=(x,true):=by
  unfold stopped
  rw [if_pos (by simp [U,cK,eH,dA];omega),mX,if_neg (by simp [hp]),F,m]
 have r:=nJ R (who:=(i:Int)) (by simp [cK,eH,dA];omega)
 rw [hs] at r
 obtain ⟨r,_,_⟩:=r
 have L:bC x=true:=(gP x).2 r
 have hl:x.hands.length=w.hands.length:=by rw [m]
 have hh:iy x.hands i=iy w.hands i:=by rw [m]
 have hd:x.deals=w.deals:=by rw [m]
 have K:x.now=w.now:=by rw [m]
 have a1:0≤w.now∧w.now≤20000:=⟨R.n0,R.n1⟩
 have a0:w.deals.length≤1000:=R.d
 have ha:iQ x i 9=((iV (fun y=>iw y (i:Int)) 9 x).1,((iV (fun y=>iw y (i:Int)) 9 x).2:Int)):=by
  unfold iQ
  rw [if_pos (by simp [L,cK,eH,dA];omega)]
  rfl
 have q:bM (iy w.hands i)=true:=by
  refine (R.hs _ ?_).1
  unfold iy
  rw [List.getD_eq_getElem?_getD,List.getElem?_eq_getElem T]
  exact List.getElem_mem T
 have A:kF w.ch (iy w.hands i).mine=true:=by simp only [eY,Bool.and_eq_true] at F;exact F.1
 have V:iO x.ch (iy x.hands i)=(x.ch,{ iy w.hands i with pos:=25 },true):=by
  rw [hh]
  refine Bl r.ch q hp ?_ ?_
  ·rw [m];exact zJ.trans A
  ·rw [m];exact DZ F
 rw [ha]
 by_cases n0:w.now=20000
 ·left
  have H:iw x (i:Int)=(x,false):=by unfold iw lM;rw [mX,V];simp [K,n0]
  have D:iV (fun y=>iw y (i:Int)) 9 x=(x,0):=by rw [show (9:Nat)=8+1 from rfl,iV,H];rfl
  rw [D]
  exact ⟨by simp,.inr tO⟩
 obtain ⟨y,u⟩:∃ y:Wo,y={ gY x (i:Int) { iy w.hands i with pos:=25 } with now:=x.now+1 }:=⟨_,rfl⟩
 have H:iw x (i:Int)=(y,true):=by
  unfold iw lM;rw [mX,V,u];simp [K,n0,gY]
 have yh:iy y.hands i={ iy w.hands i with pos:=25 }:=by
  rw [u];show iy (x.hands.set _ _) i=_
  rw [Int.toNat_natCast,zm _ tO];simp
 have yl:y.hands.length=w.hands.length:=by rw [u];show (x.hands.set _ _).length=_;simp [hl]
 have O:y.deals=w.deals:=by rw [u];exact hd
 have yn:y.now=w.now+1:=by rw [u];show x.now+1=_;rw [K]
 have yc:y.ch=x.ch:=by rw [u];rfl
 have N:bM { iy w.hands i with pos:=25 }=true:=by
  obtain ⟨Z,b2,b3,b4,b5,b6,b7,b8,b9,I,J⟩:=(hb_iff.1 q).2
  exact H6 q tO ⟨by show (1:Int)≤25;omega,by show (25:Int)≤25;omega⟩ rfl rfl ⟨Z,b2,b3,b4,b5,b6,b7,b8,b9,I,J⟩
 have X:iO y.ch (iy y.hands i)=(cB x.ch (iy w.hands i).cell (pg { iy w.hands i with pos:=25 }),aV 3 0,true):=by
  rw [yh,yc]
  exact G6 (h:={ iy w.hands i with pos:=25 }) r.ch N rfl (by rw [m];exact zJ.trans A)
 by_cases n1:w.now+1=20000∨w.deals.length=1000
 ·left
  have M:iw y (i:Int)=(y,false):=by
   unfold iw lM;rw [mX,X]
   rcases n1 with n1|n1
   ·simp [yn,n1]
   ·by_cases E:y.now=20000
    ·simp [E]
    ·simp [E,aV,O,n1]
  have D:iV (fun y=>iw y (i:Int)) 9 x=(y,1):=by rw [show (9:Nat)=7+1+1 from rfl,iV,H];simp [iV,M]
  rw [D]
  exact ⟨by simp,by rcases n1 with n1|n1 <;> omega⟩
 ·right
  obtain ⟨z,G⟩:∃ z:Wo,z={ gY y (i:Int) (aV 3 0) with now:=y.now+1,ch:=cB x.ch (iy w.hands i).cell (pg { iy w.hands i with pos:=25 }),deals:=y.deals ++ [KY y i (aV 3 0)] }:=⟨_,rfl⟩
  have M:iw y (i:Int)=(z,true):=by
   have E:¬ y.now=20000:=by omega
   have h8:¬ y.deals.length=1000:=by rw [O];omega
   unfold iw lM;rw [mX,X,G];simp [E,h8,aV]
  have Y:iy z.hands i=aV 3 0:=by
   rw [G];show iy (y.hands.set _ _) i=_
   rw [Int.toNat_natCast,zm _ tO];simp
  have t3:iw z (i:Int)=(z,false):=Gx (by rw [Y];rfl)
  have D:iV (fun y=>iw y (i:Int)) 9 x=(z,2):=by rw [show (9:Nat)=6+1+1+1 from rfl,iV,H];simp [iV,M,t3]
  rw [D]
  refine ⟨rfl,?_,?_,by rw [Y];rfl⟩
  ·rw [G];simp [O]
  ·rw [G];show (y.hands.set _ _).length=_;simp [yl]
end
end Go.Proofs.YtffhjmepfojhnaaGreat
