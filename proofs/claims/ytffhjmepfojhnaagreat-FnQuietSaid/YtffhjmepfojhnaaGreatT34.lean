/-
  A step of a world that ends, of the reference model; lists lie in memory and hold at most 2 ^ 40 elements.
-/
import Derived.Test.YtffhjmepfojhnaaGreatT30
set_option maxRecDepth 100000
set_option maxHeartbeats 4000000
set_option linter.unusedSimpArgs false
set_option linter.unusedVariables false
namespace Go.Proofs.YtffhjmepfojhnaaGreat
open _root_.Go.Proofs.Tryz
open Go.RowKit
attribute [local simp] dz
attribute [local go_sem ↓] dA dO dP jv bK
attribute [local go_sem] iG
theorem QG (w:World) (d:De) (t:TypeId):∀ j u,(jk d).toList[j]?=some u→(w.alloc (.cells (jk d) t)).cell? ((⟨w,0,none⟩:Addr).add j)=some u:=by
 intro j u h;have e:(⟨w,0,none⟩:Addr).add j=⟨w,j,none⟩:=by
  by_cases F:j=0 <;> simp [Addr.add,F]
 rw [e,cell_of_row _ _ _ _ _ _ (heap_alloc_new w (.cells (jk d) t))];simpa using h
theorem gU.snoc {w:World} {lo:Nat} {v:Value} {ds:List De} {d:De} (h:w.ownsRow lo 44 7 v (ds.length+1) (oh ds ++ (jk d).toList)):gU w lo v (ds ++ [d]):=by
 simpa [gU,oh] using h
attribute [local go_sem] zy uX lQ
theorem EU (x:Wo) (who:Int) (S:St) (a b d e:Option Addr) (p q r s:Nat) (w:World) (h1:gG w w a x.ch.cells) (z1:a=none→p=0) (h2:gI w w b x.ch.words) (z2:b=none→q=0) (h3:qX w w d x.hands) (z3:d=none→x.hands.length=0∧r=0) (h4:uh w w e x.deals) (z4:e=none→x.deals.length=0∧s=0) (m1:x.ch.cells.length≤1099511627776) (m2:x.ch.words.length≤1099511627776) (m3:x.hands.length≤1099511627776) (m4:x.deals.length≤1099511627776) (ht:bW x who=true) (hS:fu x.ch (aJ x who)=S) (hc:S.2.2=true) (hn:(x.now == 20000)=false) (bu:0≤x.now∧x.now≤20000) (hx:(S.2.1.pos != 0)=false) (hf:decide (1000≤x.deals.length)=false) (hr:jT (aJ x who).code (aJ x who).elem S.2.1.reply=true) :
  Calls prog 135 #[oI x a b d e p q r s,.int .i64 who] w fun r w'=>ig w w' (stepW x who S).1 (.bool (stepW x who S).2) r:=by
 have H1:=aA h1;have H2:=aA h2;have H3:=aA h3;have H4:=aA h4;have Z1:=aA z1;have Z2:=aA z2;have Z3:=aA z3;have Z4:=aA z4;clear h1 h2 h3 h4 z1 z2 z3 z4;obtain ⟨i,rfl⟩:∃ i:Nat,who=(i:Int):=⟨who.toNat,by simp [bW,gP,dV] at ht;omega⟩;have hi:i<x.hands.length:=by simp [bW,gP,dV] at ht;omega
 obtain ⟨b3,o3,rfl,am,az⟩:∃ b o,d=some ⟨b,o,none⟩∧b<w.heap.size∧Hid (∀ i j,i<x.hands.length→j<14→w.cell? ⟨b,o+i*14+j,none⟩=some (fO x.hands i j)):=by
  rcases H3.out with h0|h0
  ·omega
  ·exact h0
 have bo:∀ W:World,hp W b3=hp w b3→(nY (.pointer (some ⟨b3,o3+i*14,none⟩))).run prog W=.ok (.agg (aB (aJ x i))) W:=fun W e=>lJ _ fun j hj=>by rw [show (aB (aJ x i)).getD j (.int .i64 0)=fO x.hands i j by simp [fO,aJ],← az.out i j hi hj];exact World.cell?_of_block e
 have bq:(0:Int)≤(i:Int):=tO;have br:(i:Int)<(x.hands.length:Int):=tO;have e0:stepW x i S=({ fQ x i S.2.1 with now:=x.now+1,ch:=S.1,deals:=x.deals ++ [⟨i,(aJ x i).code,(aJ x i).elem,(aJ x i).beg,x.now+1,S.2.1.reply,S.2.1.out⟩] },true):=by simp at hn hx hf;simp [stepW,hc,hn,hx,hf,hr]
 rw [e0];clear e0;have T:=aA fun a b p q W=>qV x.ch (aJ x i) a b p q W
 rw [hS] at T;clear hS;have bw:b3<w.heap.size+1:=tO;have bx:b3<w.heap.size+1+1:=tO;have OH:b3≠w.heap.size:=tO;have zX:b3≠w.heap.size+1:=tO;go_enter func135,ntmps135;go_wp2_with fail;refine aK w zB fun bb=>?_;refine (T.out a b p q _ (aT H1 bb) Z1.out (aT H2 bb) Z2.out).mono ?_;rintro _ V ⟨⟨y1,y2,rfl,aj,ak,_,_⟩,a8⟩;have al:Below w w V:=bT bb a8;have aq:=a8.size;(try simp at aq);have zz:=And.intro (hQ a8 (b:=w+1+1)) <| And.intro (hQ a8 (b:=w+1)) <| hQ a8 (b:=w);(try simp [go_sem] at zz);(try clear F N M I);(try clear H a1 Z L);(try clear O aa a9 a2);obtain ⟨F,H,O⟩:=zz;obtain ⟨N,M,I⟩:=bO F;obtain ⟨a1,Z,L⟩:=bO H;obtain ⟨aa,a9,a2⟩:=bO O;clear a8 bb
 try simp at aj ak
 have U1:=aA aj;have U2:=aA ak;obtain ⟨ya,yc,rfl,_⟩:=aF.seg aj;obtain ⟨yb,yd,rfl,_⟩:=aI.seg ak;clear aj ak;simp only [aH];have z2:hp V b3=hp w b3:=al.block b3 am;have c1:b3<V.heap.size:=tO;have pq:b3≠V.heap.size:=tO;have fP:b3≠V.heap.size+1:=tO;have c6:b3<V.heap.size+1:=tO;rw [hc];go_wp2_with fail;refine aK w zB fun bb=>?_;refine aK V zB fun bk=>?_;refine (iR x a b _ e p q r s _ (aT H1 bb) Z1.out (aT H2 bb) Z2.out (aT H3 bb) Z3.out (aT H4 bb) Z4.out m1 m2 m3 m4).mono ?_;rintro _ w3 ⟨⟨v1,v2,v3,v4,rfl,o1,o2,ai,o4⟩,a0⟩;have af:Below w w w3:=bT bb a0;have ar:=a0.size;(try simp at ar);have zz:=And.intro (hQ a0 (b:=V+1)) <| And.intro (hQ a0 (b:=V)) <| And.intro (hQ a0 (b:=w+1+1)) <| And.intro (hQ a0 (b:=w+1)) <| hQ a0 (b:=w);(first|simp [go_sem,F,H,O,a2,L,I] at zz|simp [go_sem] at zz|skip);(try clear G Y X K);(try clear J a7 a4 U);(try clear F N M I);(try clear H a1 Z L);(try clear O aa a9 a2);obtain ⟨G,J,F,H,O⟩:=zz;obtain ⟨Y,X,K⟩:=bO G;obtain ⟨a7,a4,U⟩:=bO J;obtain ⟨N,M,I⟩:=bO F;obtain ⟨a1,Z,L⟩:=bO H;obtain ⟨aa,a9,a2⟩:=bO O;have ag:Below V V w3:=bT bk a0;clear a0 bb bk
 try simp at o1 o2 ai o4
 have O1:=aA o1;have O2:=aA o2;have O3:=aA ai;have O4:=aA o4;obtain ⟨va,vc,rfl,_⟩:=aF.seg o1;obtain ⟨vb,vd,rfl,_⟩:=aI.seg o2;obtain ⟨g,vg,rfl,bt,lg,ao,ap⟩:=dY.open1 ai hi;obtain ⟨vh,vi,rfl,_⟩:=gU.seg o4;clear o1 o2 ai o4;have z3:hp w3 b3=hp w b3:=af.block b3 am;have ce:g≠w.heap.size:=tO;have b5:w.heap.size≠g:=tO;have cf:g≠w.heap.size+1:=tO;have b6:w.heap.size+1≠g:=tO;have cg:g≠w.heap.size+1+1:=tO;have b7:w.heap.size+1+1≠g:=tO
 have ci:g≠V.heap.size:=tO;have b8:V.heap.size≠g:=tO;have cj:g≠V.heap.size+1:=tO;have b9:V.heap.size+1≠g:=tO;have ck:g≠w3.heap.size:=tO;have ba:w3.heap.size≠g:=tO;have bi:w.heap.size<g:=tO;have bj:w.heap.size+1<g:=tO;have bl:w.heap.size+1+1<g:=tO;have bm:V.heap.size<g:=tO;have bn:V.heap.size+1<g:=tO;have c7:g<w3.heap.size+1:=tO;have ay:∀ (W:World) (y:Ha),hp W g=hp w3 g→(xx (.pointer (some ⟨g,i*14,none⟩)) (.agg (aB y))).run prog W=.ok () (jw W g (i*14) y):=fun W y e=>zx y (fun j hj=>⟨_,(World.cell?_of_block (show W.heap[g]?=w3.heap[g]? from e)).trans (ao j hj)⟩) (fun j=>(World.frozen?_of_block (show W.heap[g]?=w3.heap[g]? from e)).trans (ap j))
 have bp:¬ (1000:Int)≤(x.deals.length:Int):=by simp at hf;omega
 obtain ⟨i6,b1,b2,ax,an⟩:=info_parts xO;go_wp2_with fail;obtain ⟨w5,ab⟩:∃ w5,w5=jw (w3.alloc (.cells #[.int .i64 S.1.cap,.int .i64 S.1.sent,.int .i64 S.1.got,.int .i64 S.1.fin,.slice ya S.1.cells yc,.slice yb S.1.words yd,.slice (some ⟨g,0,none⟩) x.hands vg,.slice vh x.deals vi,.int .i64 (x.now+1)] 35)) g (i*14) S.2.1:=⟨_,rfl⟩;rw [← ab];have ae:∀ o,w5.cell? ⟨w3,o,none⟩=#[Value.int .i64 S.1.cap,.int .i64 S.1.sent,.int .i64 S.1.got,.int .i64 S.1.fin,.slice ya S.1.cells yc,.slice yb S.1.words yd,.slice (some ⟨g,0,none⟩) x.hands vg,.slice vh x.deals vi,.int .i64 (x.now+1)][o]?:=fun o=>by rw [ab];simp [go_sem, *]
 have ac:∀ o,w5.frozen? ⟨w3,o,none⟩=false:=fun o=>by rw [ab];simp [go_sem, *]
 have a3:hp w5 w3=some (.cells #[.int .i64 S.1.cap,.int .i64 S.1.sent,.int .i64 S.1.got,.int .i64 S.1.fin,.slice ya S.1.cells yc,.slice yb S.1.words yd,.slice (some ⟨g,0,none⟩) x.hands vg,.slice vh x.deals vi,.int .i64 (x.now+1)] 35):=by
  rw [ab];exact (bM (l9 _ g (i*14) S.2.1) cK (by simpa using ba)).trans (heap_alloc_new w3 _)
 have a5:w3.grownBy w5 (some g):=by rw [ab];exact gT (gA (gR _ _)) (l9 _ g (i*14) S.2.1)
 have a6:w3<w5.heap.size:=by rw [ab,lQ];simp
 have bv:w3+1≤w5.heap.size:=a6;have cm:some (w.heap.size)≠some g:=by simpa using b5
 have cn:some (w.heap.size+1)≠some g:=by simpa using b6
 have cp:some (w.heap.size+1+1)≠some g:=by simpa using b7
 have cq:some (V.heap.size)≠some g:=by simpa using b8
 have cr:some (V.heap.size+1)≠some g:=by simpa using b9
 have o1:=own_below U1.out ag;have o2:=own_below U2.out ag;have o3:=O3.out;have o4:=O4.out;have e1:=jd (g:=g) (dF o1 o3 cB) rfl;have e2:=jd (g:=g) (dF o2 o3 cB) rfl;have e4:=jd (g:=g) (dF o4 o3 cB) rfl;have r1:=o1.kept a5 (.inr e1);have r2:=o2.kept a5 (.inr e2);have r4:=o4.kept a5 (.inr e4);have r3:dY w5 (V+1+1) (.slice (some ⟨g,0,none⟩) x.hands vg) (x.hands.set i S.2.1):=by rw [ab];exact dY.set (World.ownsRow.alloc o3 _) hi _
 have R1:=aA r1;have R2:=aA r2;have R3:=aA r3;have R4:=aA r4;have B5:Below w w w5:=mO af a5 tO (fun k hk=>by simp at hk;omega);have b4:∀ j,(Value.slice vh x.deals vi).ownBlock=some j→V.heap.size+1+1≤j∧j<w3.heap.size:=fun j hj=>o4.lt j hj
 have bc:(Value.slice ya S.1.cells yc).ownBlock≠some w3.heap.size:=fun e=>by have:=(o1.lt _ e).2;omega
 have be:(Value.slice yb S.1.words yd).ownBlock≠some w3.heap.size:=fun e=>by have:=(o2.lt _ e).2;omega
 have bf:(Value.slice (some ⟨g,0,none⟩) x.hands vg).ownBlock≠some w3.heap.size:=fun e=>by have:=(o3.lt _ e).2;omega
 clear ab o1 o2 o3 o4 r1 r2 r3 r4 e1 e2 e4 O1 O2 O3 O4 U1 U2 ay ao ap af ag;have au:=a5.size;(try (simp at au));have zz:=And.intro (bM a5 (b:=V+1) tS dM) <| And.intro (bM a5 (b:=V) tS dM) <| And.intro (bM a5 (b:=w+1+1) tS dM) <| And.intro (bM a5 (b:=w+1) tS dM) <| bM a5 (b:=w) tS dM;(first|simp [go_sem,G,J,F,H,O,a2,U,K,L,I] at zz|simp [go_sem] at zz|skip);(try clear G Y X K);(try clear J a7 a4 U);(try clear F N M I);(try clear H a1 Z L);(try clear O aa a9 a2);obtain ⟨G,J,F,H,O⟩:=zz;obtain ⟨Y,X,K⟩:=bO G;obtain ⟨a7,a4,U⟩:=bO J;obtain ⟨N,M,I⟩:=bO F;obtain ⟨a1,Z,L⟩:=bO H;obtain ⟨aa,a9,a2⟩:=bO O
 clear a5;go_wp2_with fail;refine aK w zB fun bb=>?_;refine aK w5 zB fun bk=>?_;refine (rC (aJ x i).code (aJ x i).elem S.2.1.reply _).mono ?_;rintro _ w6 ⟨rfl,R⟩;have bg:Below w w w6:=bT bb R;have av:=R.size;(try simp at av);have zz:=And.intro (hQ R (b:=w3)) <| And.intro (hQ R (b:=V+1)) <| And.intro (hQ R (b:=V)) <| And.intro (hQ R (b:=w+1+1)) <| And.intro (hQ R (b:=w+1)) <| hQ R (b:=w);(first|simp [go_sem,a3,G,J,F,H,O,a2,U,K,a6,L,I] at zz|simp [go_sem] at zz|skip);(try clear a3 ae ac a6);(try clear G Y X K);(try clear J a7 a4 U);(try clear F N M I);(try clear H a1 Z L);(try clear O aa a9 a2);obtain ⟨a3,G,J,F,H,O⟩:=zz;obtain ⟨ae,ac,a6⟩:=bO a3;obtain ⟨Y,X,K⟩:=bO G;obtain ⟨a7,a4,U⟩:=bO J;obtain ⟨N,M,I⟩:=bO F;obtain ⟨a1,Z,L⟩:=bO H;obtain ⟨aa,a9,a2⟩:=bO O;have ad:Below w5 w5 w6:=bT bk R;clear R bb bk
 rw [hr];have q1:=own_below R1.out ad;have q2:=own_below R2.out ad;have q3:=own_below R3.out ad;have q4:=own_below R4.out ad;go_wp2_with (at_builtin;refine wpList_append_lies _ rfl _ _ 33 rfl (V.heap.size+1+1) 44 i6 _ 7 56 underlying33 b1 b2 ax an rfl cB (.slice vh x.deals vi) x.deals (oh x.deals) rfl (World.ownsRow.alloc q4 _) ⟨w6,0,none⟩ 1 1 (jk (⟨i,(aJ x i).code,(aJ x i).elem,(aJ x i).beg,x.now+1,S.2.1.reply,S.2.1.out⟩:De)).toList rfl rfl ?c2 (by simp [jk,Value.oneCell']) tO ?c3 ?c4 ?c5 (w6+1) cK ?_)
 case c2=>exact QG w6 _ _
 case c3=>unfold maxLen;omega
 case c4=>omega
 case c5=>simp;omega
 intro g8 q8 w8 o8 g4 ah bh;have c8:some (w.heap.size)≠(Value.slice vh x.deals vi).ownBlock:=fun e=>by have:=b4 _ e.symm;omega
 have c9:some (w.heap.size+1)≠(Value.slice vh x.deals vi).ownBlock:=fun e=>by have:=b4 _ e.symm;omega
 have ca:some (w.heap.size+1+1)≠(Value.slice vh x.deals vi).ownBlock:=fun e=>by have:=b4 _ e.symm;omega
 have cb:some (V.heap.size)≠(Value.slice vh x.deals vi).ownBlock:=fun e=>by have:=b4 _ e.symm;omega
 have cc:some (V.heap.size+1)≠(Value.slice vh x.deals vi).ownBlock:=fun e=>by have:=b4 _ e.symm;omega
 have cd:some (w3.heap.size)≠(Value.slice vh x.deals vi).ownBlock:=fun e=>by have:=b4 _ e.symm;omega
 have aw:=g4.size;(try (simp at aw));have zz:=And.intro (bM g4 (b:=w3) tS dM) <| And.intro (bM g4 (b:=V+1) tS dM) <| And.intro (bM g4 (b:=V) tS dM) <| And.intro (bM g4 (b:=w+1+1) tS dM) <| And.intro (bM g4 (b:=w+1) tS dM) <| bM g4 (b:=w) tS dM;(first|simp [go_sem,a3,G,J,F,H,O,a2,U,K,a6,L,I] at zz|simp [go_sem] at zz|skip);(try clear a3 ae ac a6);(try clear G Y X K);(try clear J a7 a4 U);(try clear F N M I);(try clear H a1 Z L);(try clear O aa a9 a2);obtain ⟨a3,G,J,F,H,O⟩:=zz;obtain ⟨ae,ac,a6⟩:=bO a3;obtain ⟨Y,X,K⟩:=bO G;obtain ⟨a7,a4,U⟩:=bO J;obtain ⟨N,M,I⟩:=bO F;obtain ⟨a1,Z,L⟩:=bO H;obtain ⟨aa,a9,a2⟩:=bO O
 have r1:=(World.ownsRow.alloc q1 (.cells (jk (⟨i,(aJ x i).code,(aJ x i).elem,(aJ x i).beg,x.now+1,S.2.1.reply,S.2.1.out⟩:De)) 44)).kept g4 (dF (World.ownsRow.alloc q1 (.cells (jk (⟨i,(aJ x i).code,(aJ x i).elem,(aJ x i).beg,x.now+1,S.2.1.reply,S.2.1.out⟩:De)) 44)) (World.ownsRow.alloc q4 (.cells (jk (⟨i,(aJ x i).code,(aJ x i).elem,(aJ x i).beg,x.now+1,S.2.1.reply,S.2.1.out⟩:De)) 44)) cB);have r2:=(World.ownsRow.alloc q2 (.cells (jk (⟨i,(aJ x i).code,(aJ x i).elem,(aJ x i).beg,x.now+1,S.2.1.reply,S.2.1.out⟩:De)) 44)).kept g4 (dF (World.ownsRow.alloc q2 (.cells (jk (⟨i,(aJ x i).code,(aJ x i).elem,(aJ x i).beg,x.now+1,S.2.1.reply,S.2.1.out⟩:De)) 44)) (World.ownsRow.alloc q4 (.cells (jk (⟨i,(aJ x i).code,(aJ x i).elem,(aJ x i).beg,x.now+1,S.2.1.reply,S.2.1.out⟩:De)) 44)) cB)
 have r3:=(World.ownsRow.alloc q3 (.cells (jk (⟨i,(aJ x i).code,(aJ x i).elem,(aJ x i).beg,x.now+1,S.2.1.reply,S.2.1.out⟩:De)) 44)).kept g4 (dF (World.ownsRow.alloc q3 (.cells (jk (⟨i,(aJ x i).code,(aJ x i).elem,(aJ x i).beg,x.now+1,S.2.1.reply,S.2.1.out⟩:De)) 44)) (World.ownsRow.alloc q4 (.cells (jk (⟨i,(aJ x i).code,(aJ x i).elem,(aJ x i).beg,x.now+1,S.2.1.reply,S.2.1.out⟩:De)) 44)) cB);have r4:gU w8 (V+1+1) (.slice (some ⟨g8,0,none⟩) (x.deals ++ [(⟨i,(aJ x i).code,(aJ x i).elem,(aJ x i).beg,x.now+1,S.2.1.reply,S.2.1.out⟩:De)]).length q8) (x.deals ++ [(⟨i,(aJ x i).code,(aJ x i).elem,(aJ x i).beg,x.now+1,S.2.1.reply,S.2.1.out⟩:De)]):=gU.snoc (by simpa using o8)
 have b0:∀ j,j<V.heap.size+1+1∨j=w3.heap.size→(Value.slice (some ⟨g8,0,none⟩) (x.deals.length+1) q8).ownBlock≠some j:=fun j h1 e=>by
  have e2:g8=j:=by simpa [Value.ownBlock] using e
  rcases ah with ah|ah
  ·have:=b4 _ ah;omega
  ·omega
 have B8:Below w w w8:=mO zB g4 tS (fun k hk=>by have:=(b4 k hk).1;omega);clear o8 g4 q1 q2 q3 q4;go_wp2;have p1:=aL (lo':=w) r1 tO;have p2:=aL (lo':=w) r2 tO;have p3:=aL (lo':=w) r3 tO;have p4:=aL (lo':=w) r4 tO;refine bodyPost_ret (v:=.tuple #[.agg #[.int .i64 S.1.cap,.int .i64 S.1.sent,.int .i64 S.1.got,.int .i64 S.1.fin,.slice ya S.1.cells yc,.slice yb S.1.words yd,.slice (some ⟨g,0,none⟩) x.hands vg,.slice (some ⟨g8,0,none⟩) (x.deals.length+1) q8,.int .i64 (x.now+1)],.bool true]) Fj rfl ⟨⟨_,_,_,_,rfl,?_,?_,?_,?_⟩,zB⟩
 ·show aF _ _ _ S.1.cells
  (repeat first|with_reducible exact p1|with_reducible refine xG ?_ _|with_reducible refine wM ?_|((with_reducible first|refine aV ?_ ?_ _|refine fC ?_ ?_);rotate_left;focus first|(refine own_ne r1 ?_;(try dsimp only);omega)|(refine dN r1 ?_;(try dsimp only);omega)|exact bc))
 ·show aI _ _ _ S.1.words
  (repeat first|with_reducible exact p2|with_reducible refine xG ?_ _|with_reducible refine wM ?_|((with_reducible first|refine aV ?_ ?_ _|refine fC ?_ ?_);rotate_left;focus first|(refine own_ne r2 ?_;(try dsimp only);omega)|(refine dN r2 ?_;(try dsimp only);omega)|exact be))
 ·show dY _ _ _ (x.hands.set i _)
  (repeat first|with_reducible exact p3|with_reducible refine xG ?_ _|with_reducible refine wM ?_|((with_reducible first|refine aV ?_ ?_ _|refine fC ?_ ?_);rotate_left;focus first|(refine own_ne r3 ?_;(try dsimp only);omega)|(refine dN r3 ?_;(try dsimp only);omega)|exact bf))
 ·have e0:x.deals.length+1=(x.deals ++ [(⟨i,(aJ x i).code,(aJ x i).elem,(aJ x i).beg,x.now+1,S.2.1.reply,S.2.1.out⟩:De)]).length:=by simp
  rw [e0]
  (repeat first|with_reducible exact p4|with_reducible refine xG ?_ _|with_reducible refine wM ?_|((with_reducible first|refine aV ?_ ?_ _|refine fC ?_ ?_);rotate_left;focus first|(refine own_ne r4 ?_;(try dsimp only);omega)|(refine dN r4 ?_;(try dsimp only);omega)|exact (by rw [← e0];exact b0 _ (by (try dsimp only) <;> omega))))
end Go.Proofs.YtffhjmepfojhnaaGreat
