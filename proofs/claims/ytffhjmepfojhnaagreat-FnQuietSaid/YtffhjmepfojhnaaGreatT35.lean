/-
  A step of a world that ends, of the reference model; lists lie in memory and hold at most 2 ^ 40 elements.
-/
import Derived.Test.YtffhjmepfojhnaaGreatT30
set_option maxRecDepth 100000
set_option maxHeartbeats 4000000
set_option linter.unusedSimpArgs false
set_option linter.unusedVariables false
namespace Go.Proofs.YtffhjmepfojhnaaGreat
open _root_.Go.Proofs.Tryz
open Go.RowKit
attribute [local simp] dz
attribute [local go_sem ↓] dA dO dP jv bK
attribute [local go_sem] iG
attribute [local go_sem] zy uX lQ
theorem vL (x:Wo) (who:Int) (S:St) (a b d e:Option Addr) (p q r s:Nat) (w:World) (h1:gG w w a x.ch.cells) (z1:a=none→p=0) (h2:gI w w b x.ch.words) (z2:b=none→q=0) (h3:qX w w d x.hands) (z3:d=none→x.hands.length=0∧r=0) (h4:uh w w e x.deals) (z4:e=none→x.deals.length=0∧s=0) (m1:x.ch.cells.length≤1099511627776) (m2:x.ch.words.length≤1099511627776) (m3:x.hands.length≤1099511627776) (m4:x.deals.length≤1099511627776) (ht:bW x who=true) (hS:fu x.ch (aJ x who)=S) (hc:S.2.2=true) (hn:(x.now == 20000)=false) (bl:0≤x.now∧x.now≤20000) (hx:(S.2.1.pos != 0)=false) :
    (∀ (hf:decide (1000≤x.deals.length)=true),Calls prog 135 #[oI x a b d e p q r s,.int .i64 who] w fun r w'=>ig w w' (stepW x who S).1 (.bool (stepW x who S).2) r) ∧
    (∀ (hf:decide (1000≤x.deals.length)=false) (hr:jT (aJ x who).code (aJ x who).elem S.2.1.reply=false),Calls prog 135 #[oI x a b d e p q r s,.int .i64 who] w fun r w'=>ig w w' (stepW x who S).1 (.bool (stepW x who S).2) r):=by
  constructor
  case' left =>
    intro hf;have mA:Hid (0=0):=rfl
  case' right =>
    intro hf hr;have mB:Hid (0=0):=rfl
  all_goals
    have H1:=aA h1;have H2:=aA h2;have H3:=aA h3;have H4:=aA h4;have Z1:=aA z1;have Z2:=aA z2;have Z3:=aA z3;have Z4:=aA z4;clear h1 h2 h3 h4 z1 z2 z3 z4;obtain ⟨i,rfl⟩:∃ i:Nat,who=(i:Int):=⟨who.toNat,by simp [bW,gP,dV] at ht;omega⟩;have hi:i<x.hands.length:=by simp [bW,gP,dV] at ht;omega
    obtain ⟨b3,o3,rfl,al,aw⟩:∃ b o,d=some ⟨b,o,none⟩∧b<w.heap.size∧Hid (∀ i j,i<x.hands.length→j<14→w.cell? ⟨b,o+i*14+j,none⟩=some (fO x.hands i j)):=by
      rcases H3.out with h0|h0
      · omega
      · exact h0
    have bg:∀ W:World,hp W b3=hp w b3→(nY (.pointer (some ⟨b3,o3+i*14,none⟩))).run prog W=.ok (.agg (aB (aJ x i))) W:=fun W e=>lJ _ fun j hj=>by rw [show (aB (aJ x i)).getD j (.int .i64 0)=fO x.hands i j by simp [fO,aJ],← aw.out i j hi hj];exact World.cell?_of_block e
    have bh:(0:Int)≤(i:Int):=tO;have bi:(i:Int)<(x.hands.length:Int):=tO
    first
    | (replace mA:=mA;have e0:stepW x i S=(x,false):=by simp at hn hx hf;simp [stepW,hc,hn,hx,hf])
    | (replace mB:=mB;have e0:stepW x i S=(x,false):=by simp at hn hx hf;simp [stepW,hc,hn,hx,hf,hr])
    rw [e0];clear e0;have T:=aA fun a b p q W=>qV x.ch (aJ x i) a b p q W
    rw [hS] at T;clear hS;have bn:b3<w.heap.size+1:=tO;have bo:b3<w.heap.size+1+1:=tO;have OH:b3≠w.heap.size:=tO;have zX:b3≠w.heap.size+1:=tO;go_enter func135,ntmps135;go_wp2_with fail;refine aK w zB fun bb=>?_;refine (T.out a b p q _ (aT H1 bb) Z1.out (aT H2 bb) Z2.out).mono ?_;rintro _ w2 ⟨⟨y1,y2,rfl,af,ag,_,_⟩,a6⟩;have ak:Below w w w2:=bT bb a6;have ao:=a6.size;(try simp at ao);have zz:=And.intro (hQ a6 (b:=w+1+1)) <| And.intro (hQ a6 (b:=w+1)) <| hQ a6 (b:=w);(try simp [go_sem] at zz);(try clear G H K F);(try clear J M N I);(try clear Z a3 a5 Y);obtain ⟨G,J,Z⟩:=zz;obtain ⟨H,K,F⟩:=bO G;obtain ⟨M,N,I⟩:=bO J;obtain ⟨a3,a5,Y⟩:=bO Z;clear a6 bb
    try simp at af ag
    have U1:=aA af;have U2:=aA ag;obtain ⟨ya,yc,rfl,_⟩:=aF.seg af;obtain ⟨yb,yd,rfl,_⟩:=aI.seg ag;clear af ag;simp only [aH];have z2:hp w2 b3=hp w b3:=ak.block b3 al;have bp:b3<w2.heap.size:=tO;have pq:b3≠w2.heap.size:=tO;have fP:b3≠w2.heap.size+1:=tO;have bq:b3<w2.heap.size+1:=tO;rw [hc];go_wp2_with fail;refine aK w zB fun bb=>?_;refine aK w2 zB fun bk=>?_;refine (iR x a b _ e p q r s _ (aT H1 bb) Z1.out (aT H2 bb) Z2.out (aT H3 bb) Z3.out (aT H4 bb) Z4.out m1 m2 m3 m4).mono ?_;rintro _ w3 ⟨⟨v1,v2,v3,v4,rfl,o1,o2,ae,o4⟩,V⟩;have ac:Below w w w3:=bT bb V;have ap:=V.size;(try simp at ap);have zz:=And.intro (hQ V (b:=w2+1)) <| And.intro (hQ V (b:=w2)) <| And.intro (hQ V (b:=w+1+1)) <| And.intro (hQ V (b:=w+1)) <| hQ V (b:=w);(first|simp [go_sem,G,J,Z,Y,I,F] at zz|simp [go_sem] at zz|skip);(try clear L a4 a0 U);(try clear R a9 a7 a2);(try clear G H K F);(try clear J M N I);(try clear Z a3 a5 Y);obtain ⟨L,R,G,J,Z⟩:=zz;obtain ⟨a4,a0,U⟩:=bO L;obtain ⟨a9,a7,a2⟩:=bO R;obtain ⟨H,K,F⟩:=bO G;obtain ⟨M,N,I⟩:=bO J;obtain ⟨a3,a5,Y⟩:=bO Z;have ad:Below w2 w2 w3:=bT bk V;clear V bb bk
    try simp at o1 o2 ae o4
    have O1:=aA o1;have O2:=aA o2;have O3:=aA ae;have O4:=aA o4;obtain ⟨va,vc,rfl,_⟩:=aF.seg o1;obtain ⟨vb,vd,rfl,_⟩:=aI.seg o2;obtain ⟨g,vg,rfl,bj,lg,am,an⟩:=dY.open1 ae hi;obtain ⟨vh,vi,rfl,_⟩:=gU.seg o4;clear o1 o2 ae o4;have z3:hp w3 b3=hp w b3:=ac.block b3 al;have bt:g≠w.heap.size:=tO;have ay:w.heap.size≠g:=tO;have bu:g≠w.heap.size+1:=tO;have az:w.heap.size+1≠g:=tO;have bv:g≠w.heap.size+1+1:=tO
    have b0:w.heap.size+1+1≠g:=tO;have bw:g≠w2.heap.size:=tO;have b1:w2.heap.size≠g:=tO;have bx:g≠w2.heap.size+1:=tO;have b2:w2.heap.size+1≠g:=tO;have c1:g≠w3.heap.size:=tO;have b5:w3.heap.size≠g:=tO;have b9:w.heap.size<g:=tO;have ba:w.heap.size+1<g:=tO;have bc:w.heap.size+1+1<g:=tO;have be:w2.heap.size<g:=tO;have bf:w2.heap.size+1<g:=tO;have br:g<w3.heap.size+1:=tO;have av:∀ (W:World) (y:Ha),hp W g=hp w3 g→(xx (.pointer (some ⟨g,i*14,none⟩)) (.agg (aB y))).run prog W=.ok () (jw W g (i*14) y):=fun W y e=>zx y (fun j hj=>⟨_,(World.cell?_of_block (show W.heap[g]?=w3.heap[g]? from e)).trans (am j hj)⟩) (fun j=>(World.frozen?_of_block (show W.heap[g]?=w3.heap[g]? from e)).trans (an j))
    first
    | (replace mA:=mA;have ax:(1000:Int)≤(x.deals.length:Int):=by simp at hf;omega)
    | (replace mB:=mB;have ax:¬ (1000:Int)≤(x.deals.length:Int):=by simp at hf;omega)
    go_wp2_with fail;obtain ⟨w5,a8⟩:∃ w5,w5=jw (w3.alloc (.cells #[.int .i64 S.1.cap,.int .i64 S.1.sent,.int .i64 S.1.got,.int .i64 S.1.fin,.slice ya S.1.cells yc,.slice yb S.1.words yd,.slice (some ⟨g,0,none⟩) x.hands vg,.slice vh x.deals vi,.int .i64 (x.now+1)] 35)) g (i*14) S.2.1:=⟨_,rfl⟩
    rw [← a8];have aj:∀ o,w5.cell? ⟨w3,o,none⟩=#[Value.int .i64 S.1.cap,.int .i64 S.1.sent,.int .i64 S.1.got,.int .i64 S.1.fin,.slice ya S.1.cells yc,.slice yb S.1.words yd,.slice (some ⟨g,0,none⟩) x.hands vg,.slice vh x.deals vi,.int .i64 (x.now+1)][o]?:=fun o=>by rw [a8];simp [go_sem, *]
    have ai:∀ o,w5.frozen? ⟨w3,o,none⟩=false:=fun o=>by rw [a8];simp [go_sem, *]
    have ab:hp w5 w3=some (.cells #[.int .i64 S.1.cap,.int .i64 S.1.sent,.int .i64 S.1.got,.int .i64 S.1.fin,.slice ya S.1.cells yc,.slice yb S.1.words yd,.slice (some ⟨g,0,none⟩) x.hands vg,.slice vh x.deals vi,.int .i64 (x.now+1)] 35):=by
      rw [a8];exact (bM (l9 _ g (i*14) S.2.1) cK (by simpa using b5)).trans (heap_alloc_new w3 _)
    have a1:w3.grownBy w5 (some g):=by rw [a8];exact gT (gA (gR _ _)) (l9 _ g (i*14) S.2.1)
    have aa:w3<w5.heap.size:=by rw [a8,lQ];simp
    have bm:w3+1≤w5.heap.size:=aa;have c9:some (w.heap.size)≠some g:=by simpa using ay
    have ca:some (w.heap.size+1)≠some g:=by simpa using az
    have cb:some (w.heap.size+1+1)≠some g:=by simpa using b0
    have cc:some (w2.heap.size)≠some g:=by simpa using b1
    have cd:some (w2.heap.size+1)≠some g:=by simpa using b2
    have o1:=own_below U1.out ad;have o2:=own_below U2.out ad;have o3:=O3.out;have o4:=O4.out;have e1:=jd (g:=g) (dF o1 o3 cB) rfl;have e2:=jd (g:=g) (dF o2 o3 cB) rfl;have e4:=jd (g:=g) (dF o4 o3 cB) rfl;have r1:=o1.kept a1 (.inr e1);have r2:=o2.kept a1 (.inr e2);have r4:=o4.kept a1 (.inr e4);have r3:dY w5 (w2+1+1) (.slice (some ⟨g,0,none⟩) x.hands vg) (x.hands.set i S.2.1):=by rw [a8];exact dY.set (World.ownsRow.alloc o3 _) hi _
    have R1:=aA r1;have R2:=aA r2;have R3:=aA r3;have R4:=aA r4;have B5:Below w w w5:=mO ac a1 tO (fun k hk=>by simp at hk;omega);have b4:∀ j,(Value.slice vh x.deals vi).ownBlock=some j→w2.heap.size+1+1≤j∧j<w3.heap.size:=fun j hj=>o4.lt j hj
    have c6:(Value.slice ya S.1.cells yc).ownBlock≠some w3.heap.size:=fun e=>by have:=(o1.lt _ e).2;omega
    have c7:(Value.slice yb S.1.words yd).ownBlock≠some w3.heap.size:=fun e=>by have:=(o2.lt _ e).2;omega
    have c8:(Value.slice (some ⟨g,0,none⟩) x.hands vg).ownBlock≠some w3.heap.size:=fun e=>by have:=(o3.lt _ e).2;omega
    clear a8 o1 o2 o3 o4 r1 r2 r3 r4 e1 e2 e4 O1 O2 O3 O4 U1 U2 av am an ac ad;have aq:=a1.size;(try (simp at aq));have zz:=And.intro (bM a1 (b:=w2+1) tS dM) <| And.intro (bM a1 (b:=w2) tS dM) <| And.intro (bM a1 (b:=w+1+1) tS dM) <| And.intro (bM a1 (b:=w+1) tS dM) <| bM a1 (b:=w) tS dM;(first|simp [go_sem,L,R,G,J,Z,Y,a2,U,I,F] at zz|simp [go_sem] at zz|skip);(try clear L a4 a0 U);(try clear R a9 a7 a2);(try clear G H K F);(try clear J M N I);(try clear Z a3 a5 Y);obtain ⟨L,R,G,J,Z⟩:=zz;obtain ⟨a4,a0,U⟩:=bO L;obtain ⟨a9,a7,a2⟩:=bO R;obtain ⟨H,K,F⟩:=bO G;obtain ⟨M,N,I⟩:=bO J;obtain ⟨a3,a5,Y⟩:=bO Z
    clear a1
    first
    | replace mA:=mA
    | (replace mB:=mB
       go_wp2_with fail;refine aK w zB fun bb=>?_;refine aK w5 zB fun bk=>?_;refine (rC (aJ x i).code (aJ x i).elem S.2.1.reply _).mono ?_;rintro _ w6 ⟨rfl,O⟩;have b6:Below w w w6:=bT bb O;have ar:=O.size;(try simp at ar);have zz:=And.intro (hQ O (b:=w3)) <| And.intro (hQ O (b:=w2+1)) <| And.intro (hQ O (b:=w2)) <| And.intro (hQ O (b:=w+1+1)) <| And.intro (hQ O (b:=w+1)) <| hQ O (b:=w);(first|simp [go_sem,ab,L,R,G,J,Z,Y,a2,U,aa,I,F] at zz|simp [go_sem] at zz|skip);(try clear ab aj ai aa);(try clear L a4 a0 U);(try clear R a9 a7 a2);(try clear G H K F);(try clear J M N I);(try clear Z a3 a5 Y);obtain ⟨ab,L,R,G,J,Z⟩:=zz;obtain ⟨aj,ai,aa⟩:=bO ab;obtain ⟨a4,a0,U⟩:=bO L;obtain ⟨a9,a7,a2⟩:=bO R;obtain ⟨H,K,F⟩:=bO G;obtain ⟨M,N,I⟩:=bO J;obtain ⟨a3,a5,Y⟩:=bO Z;have b8:Below w5 w5 w6:=bT bk O;clear O bb bk
       rw [hr])
    go_wp2_with fail;refine aK w zB fun bb=>?_;refine (iR x a b _ e p q r s _ (aT H1 bb) Z1.out (aT H2 bb) Z2.out (aT H3 bb) Z3.out (aT H4 bb) Z4.out m1 m2 m3 m4).mono ?_;rintro _ w7 ⟨⟨v1,v2,v3,v4,rfl,u1,u2,ah,u4⟩,X⟩;have b7:Below w w w7:=bT bb X;have au:=X.size;(try simp at au);have zz:=And.intro (fun o=>X.cell (p:=⟨w+1+1,o,none⟩) tS) <| And.intro (fun o=>X.frozen (p:=⟨w+1+1,o,none⟩) tS) <| And.intro (fun o=>X.cell (p:=⟨w+1,o,none⟩) tS) <| And.intro (fun o=>X.frozen (p:=⟨w+1,o,none⟩) tS) <| And.intro (fun o=>X.cell (p:=⟨w,o,none⟩) tS) <| fun o=>X.frozen (p:=⟨w,o,none⟩) tS;(first|simp [go_sem,H,K,M,N,a3,a5,Y,I,F] at zz|simp [go_sem,H,M,a3,Y,I,F] at zz|simp [go_sem] at zz|skip);(try clear H K);(try clear M N);(try clear a3 a5);obtain ⟨H,K,M,N,a3,a5⟩:=zz;(try clear F);have F:w+1+1<w7.heap.size:=tO;(try clear I);have I:w+1<w7.heap.size:=tO;(try clear Y);have Y:w<w7.heap.size:=tO;clear X bb
    try simp at u1 u2 ah u4
    have O1:=aA u1;have O2:=aA u2;have O3:=aA ah;have O4:=aA u4;obtain ⟨va,vc,rfl,_⟩:=aF.seg u1;obtain ⟨vb,vd,rfl,_⟩:=aI.seg u2;obtain ⟨vf,vg,rfl,_⟩:=dY.seg ah;obtain ⟨vh,vi,rfl,_⟩:=gU.seg u4;clear u1 u2 ah u4;go_wp2;have o1:=O1.out;have o2:=O2.out;have o3:=O3.out;have o4:=O4.out
    first
    | (replace mA:=mA;refine bodyPost_ret (v:=.tuple #[.agg #[x.ch.cap,x.ch.sent,x.ch.got,x.ch.fin,.slice va x.ch.cells vc,.slice vb x.ch.words vd,.slice vf x.hands vg,.slice vh x.deals vi,.int .i64 (x.now)],.bool false]) Fj rfl ⟨⟨_,_,_,_,rfl,aL (lo:=w5) ?_ tO,aL (lo:=w5) ?_ tO,aL (lo:=w5) ?_ tO,aL (lo:=w5) ?_ tO⟩,zB⟩)
    | (replace mB:=mB;refine bodyPost_ret (v:=.tuple #[.agg #[x.ch.cap,x.ch.sent,x.ch.got,x.ch.fin,.slice va x.ch.cells vc,.slice vb x.ch.words vd,.slice vf x.hands vg,.slice vh x.deals vi,.int .i64 (x.now)],.bool false]) Fj rfl ⟨⟨_,_,_,_,rfl,aL (lo:=w6) ?_ tO,aL (lo:=w6) ?_ tO,aL (lo:=w6) ?_ tO,aL (lo:=w6) ?_ tO⟩,zB⟩)
    · exact zO o1 o1
    · exact zO o2 o2
    · exact zO o3 o3
    · exact zO o4 o4
theorem EW (x:Wo) (who:Int) (S:St) (a b d e:Option Addr) (p q r s:Nat) (w:World) (h1:gG w w a x.ch.cells) (z1:a=none→p=0) (h2:gI w w b x.ch.words) (R:b=none→q=0) (h3:qX w w d x.hands) (T:d=none→x.hands.length=0∧r=0) (G:uh w w e x.deals) (U:e=none→x.deals.length=0∧s=0) (L:x.ch.cells.length≤1099511627776) (M:x.ch.words.length≤1099511627776) (N:x.hands.length≤1099511627776) (O:x.deals.length≤1099511627776) (ht:bW x who=true) (H:fu x.ch (aJ x who)=S) (hc:S.2.2=true) (J:(x.now == 20000)=false) (F:0≤x.now∧x.now≤20000) (K:(S.2.1.pos != 0)=false) (I:decide (1000≤x.deals.length)=true) :
    Calls prog 135 #[oI x a b d e p q r s,.int .i64 who] w fun r w'=>ig w w' (stepW x who S).1 (.bool (stepW x who S).2) r:=(vL x who S a b d e p q r s w h1 z1 h2 R h3 T G U L M N O ht H hc J F K).1 I
theorem Cr (x:Wo) (who:Int) (S:St) (a b d e:Option Addr) (p q r s:Nat) (w:World) (h1:gG w w a x.ch.cells) (z1:a=none→p=0) (h2:gI w w b x.ch.words) (R:b=none→q=0) (h3:qX w w d x.hands) (T:d=none→x.hands.length=0∧r=0) (G:uh w w e x.deals) (U:e=none→x.deals.length=0∧s=0) (L:x.ch.cells.length≤1099511627776) (M:x.ch.words.length≤1099511627776) (N:x.hands.length≤1099511627776) (O:x.deals.length≤1099511627776) (ht:bW x who=true) (H:fu x.ch (aJ x who)=S) (hc:S.2.2=true) (J:(x.now == 20000)=false) (F:0≤x.now∧x.now≤20000) (K:(S.2.1.pos != 0)=false) (I:decide (1000≤x.deals.length)=false) (hr:jT (aJ x who).code (aJ x who).elem S.2.1.reply=false) :
    Calls prog 135 #[oI x a b d e p q r s,.int .i64 who] w fun r w'=>ig w w' (stepW x who S).1 (.bool (stepW x who S).2) r:=(vL x who S a b d e p q r s w h1 z1 h2 R h3 T G U L M N O ht H hc J F K).2 I hr
end Go.Proofs.YtffhjmepfojhnaaGreat
