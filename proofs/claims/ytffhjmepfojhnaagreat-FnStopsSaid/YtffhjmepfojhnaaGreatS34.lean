/-
  A step of a world that ends, of the reference model; lists lie in memory and hold at most 2 ^ 40 elements.
-/
import Derived.Test.YtffhjmepfojhnaaGreatS30
import Derived.Test.YtffhjmepfojhnaaGreatS32
import Derived.Test.YtffhjmepfojhnaaGreatS07
set_option maxRecDepth 100000
set_option maxHeartbeats 8000000
set_option linter.unusedSimpArgs false
set_option linter.unusedVariables false
namespace Go.Proofs.YtffhjmepfojhnaaGreat
open _root_.Go.Proofs.Tryz
section
open Go.RowKit
attribute [local simp] aP
attribute [local go_sem ↓] aQ aY aZ gK aN
attribute [local go_sem] fF
theorem MQ (w:World) (d:De) (t:TypeId):∀ j u,(gM d).toList[j]?=some u→(w.alloc (.cells (gM d) t)).cell? ((⟨w,0,none⟩:Addr).add j)=some u:=by
 intro j u h
 have e:(⟨w,0,none⟩:Addr).add j=⟨w,j,none⟩:=by
  by_cases m:j=0 <;> simp [Addr.add,m]
 rw [e,cell_of_row _ _ _ _ _ _ (heap_alloc_new w (.cells (gM d) t))]
 simpa using h
theorem dV.snoc {w:World} {lo:Nat} {v:Value} {ds:List De} {d:De} (h:w.ownsRow lo 44 7 v (ds.length+1) (kJ ds ++ (gM d).toList)):dV w lo v (ds ++ [d]):=by
 simpa [dV,kJ] using h
attribute [local go_sem] sw nZ jL
theorem Bh (x:Wo) (who:Int) (S:St) (a b d e:Option Addr) (p q r s:Nat) (w:World) (h1:fA w w a x.ch.cells) (z1:a=none→p=0) (h2:fD w w b x.ch.words) (z2:b=none→q=0) (h3:pF w w d x.hands) (z3:d=none→x.hands.length=0∧r=0) (h4:pG w w e x.deals) (z4:e=none→x.deals.length=0∧s=0) (m1:x.ch.cells.length≤1099511627776) (m2:x.ch.words.length≤1099511627776) (m3:x.hands.length≤1099511627776) (m4:x.deals.length≤1099511627776) (ht:cK x who=true) (hS:fZ x.ch (aL x who)=S) (hc:S.2.2=true) (hn:(x.now == 20000)=false) (bo:0≤x.now∧x.now≤20000) (hx:(S.2.1.pos != 0)=false) (hf:decide (1000≤x.deals.length)=false) (hr:kM (aL x who).code (aL x who).elem S.2.1.reply=true) :
  Calls prog 135 #[kZ x a b d e p q r s,.int .i64 who] w fun r w'=>fE w w' (stepW x who S).1 (.bool (stepW x who S).2) r:=by
 have H1:=aA h1
 have H2:=aA h2
 have H3:=aA h3
 have H4:=aA h4
 have Z1:=aA z1
 have Z2:=aA z2
 have Z3:=aA z3
 have Z4:=aA z4
 clear h1 h2 h3 h4 z1 z2 z3 z4
 obtain ⟨i,rfl⟩:∃ i:Nat,who=(i:Int):=⟨who.toNat,by simp [cK,eH,dA] at ht;omega⟩
 have hi:i<x.hands.length:=by simp [cK,eH,dA] at ht;omega
 obtain ⟨b3,o3,rfl,ah,au⟩:∃ b o,d=some ⟨b,o,none⟩∧b<w.heap.size∧Hid (∀ i j,i<x.hands.length→j<14→w.cell? ⟨b,o+i*14+j,none⟩=some (dY x.hands i j)):=by
  rcases H3.out with h0|h0
  ·omega
  ·exact h0
 have bi:∀ W:World,hp W b3=hp w b3→(jU (.pointer (some ⟨b3,o3+i*14,none⟩))).run prog W=.ok (.agg (aB (aL x i))) W:=fun W e=>jh _ fun j hj=>by rw [show (aB (aL x i)).getD j (.int .i64 0)=dY x.hands i j by simp [dY,aL],← au.out i j hi hj];exact World.cell?_of_block e
 have bl:(0:Int)≤(i:Int):=by omega
 have bm:(i:Int)<(x.hands.length:Int):=by omega
 have e0:stepW x i S=({ gY x i S.2.1 with now:=x.now+1,ch:=S.1,deals:=x.deals ++ [⟨i,(aL x i).code,(aL x i).elem,(aL x i).beg,x.now+1,S.2.1.reply,S.2.1.out⟩] },true):=by simp at hn hx hf;simp [stepW,hc,hn,hx,hf,hr]
 rw [e0]
 clear e0
 have T:=aA fun a b p q W=>om x.ch (aL x i) a b p q W
 rw [hS] at T
 clear hS
 have bq:b3<w.heap.size+1:=by omega
 have br:b3<w.heap.size+1+1:=by omega
 have PD:b3≠w.heap.size:=by omega
 have uV:b3≠w.heap.size+1:=by omega
 go_enter func135,ntmps135
 go_wp2_with fail;refine aK w zB fun bb=>?_;refine (T.out a b p q _ (aT H1 bb) Z1.out (aT H2 bb) Z2.out).mono ?_;rintro _ L ⟨⟨y1,y2,rfl,ae,af,_,_⟩,a3⟩;have ag:Below w w L:=bT bb a3;have al:=a3.size;(try simp at al);have zz:=And.intro (hQ a3 (b:=w+1+1)) <| And.intro (hQ a3 (b:=w+1)) <| hQ a3 (b:=w);(try simp [go_sem] at zz);(try clear m H G A);(try clear z U O F);(try clear I a5 a4 V);obtain ⟨m,z,I⟩:=zz;obtain ⟨H,G,A⟩:=bO m;obtain ⟨U,O,F⟩:=bO z;obtain ⟨a5,a4,V⟩:=bO I;clear a3 bb
 try simp at ae af
 have U1:=aA ae
 have U2:=aA af
 obtain ⟨ya,yc,rfl,_⟩:=aD.seg ae
 obtain ⟨yb,yd,rfl,_⟩:=aG.seg af
 clear ae af
 simp only [aF]
 have z2:hp L b3=hp w b3:=ag.block b3 ah
 have bt:b3<L.heap.size:=by omega
 have ql:b3≠L.heap.size:=by omega
 have dW:b3≠L.heap.size+1:=by omega
 have bu:b3<L.heap.size+1:=by omega
 rw [hc]
 go_wp2_with fail;refine aK w zB fun bb=>?_;refine aK L zB fun bk=>?_;refine (iE x a b _ e p q r s _ (aT H1 bb) Z1.out (aT H2 bb) Z2.out (aT H3 bb) Z3.out (aT H4 bb) Z4.out m1 m2 m3 m4).mono ?_;rintro _ Y ⟨⟨v1,v2,v3,v4,rfl,o1,o2,ad,o4⟩,R⟩;have aa:Below w w Y:=bT bb R;have am:=R.size;(try simp at am);have zz:=And.intro (hQ R (b:=L+1)) <| And.intro (hQ R (b:=L)) <| And.intro (hQ R (b:=w+1+1)) <| And.intro (hQ R (b:=w+1)) <| hQ R (b:=w);(first|simp [go_sem,m,z,I,V,F,A] at zz|simp [go_sem] at zz|skip);(try clear u N M E);(try clear D a2 Z K);(try clear m H G A);(try clear z U O F);(try clear I a5 a4 V);obtain ⟨u,D,m,z,I⟩:=zz;obtain ⟨N,M,E⟩:=bO u;obtain ⟨a2,Z,K⟩:=bO D;obtain ⟨H,G,A⟩:=bO m;obtain ⟨U,O,F⟩:=bO z;obtain ⟨a5,a4,V⟩:=bO I;have ab:Below L L Y:=bT bk R;clear R bb bk
 try simp at o1 o2 ad o4
 have O1:=aA o1
 have O2:=aA o2
 have O3:=aA ad
 have O4:=aA o4
 obtain ⟨va,vc,rfl,_⟩:=aD.seg o1
 obtain ⟨vb,vd,rfl,_⟩:=aG.seg o2
 obtain ⟨g,vg,rfl,bn,lg,aj,ak⟩:=cO.open1 ad hi
 obtain ⟨vh,vi,rfl,_⟩:=dV.seg o4
 clear o1 o2 ad o4
 have z3:hp Y b3=hp w b3:=aa.block b3 ah
 have c8:g≠w.heap.size:=by omega
 have ay:w.heap.size≠g:=by omega
 have c9:g≠w.heap.size+1:=by omega
 have az:w.heap.size+1≠g:=by omega
 have ca:g≠w.heap.size+1+1:=by omega
 have b0:w.heap.size+1+1≠g:=by omega
 have cb:g≠L.heap.size:=by omega
 have b1:L.heap.size≠g:=by omega
 have cc:g≠L.heap.size+1:=by omega
 have b2:L.heap.size+1≠g:=by omega
 have cd:g≠Y.heap.size:=by omega
 have b5:Y.heap.size≠g:=by omega
 have bc:w.heap.size<g:=by omega
 have be:w.heap.size+1<g:=by omega
 have bf:w.heap.size+1+1<g:=by omega
 have bg:L.heap.size<g:=by omega
 have bh:L.heap.size+1<g:=by omega
 have bv:g<Y.heap.size+1:=by omega
 have ar:∀ (W:World) (y:Ha),hp W g=hp Y g→(pY (.pointer (some ⟨g,i*14,none⟩)) (.agg (aB y))).run prog W=.ok () (ig W g (i*14) y):=fun W y e=>qp y (fun j hj=>⟨_,(World.cell?_of_block (show W.heap[g]?=Y.heap[g]? from e)).trans (aj j hj)⟩) (fun j=>(World.frozen?_of_block (show W.heap[g]?=Y.heap[g]? from e)).trans (ak j))
 have bj:¬ (1000:Int)≤(x.deals.length:Int):=by simp at hf;omega
 obtain ⟨i6,aw,ax,aq,ai⟩:=info_parts nV
 go_wp2_with fail
 obtain ⟨w5,a6⟩:∃ w5,w5=ig (Y.alloc (.cells #[.int .i64 S.1.cap,.int .i64 S.1.sent,.int .i64 S.1.got,.int .i64 S.1.fin,.slice ya S.1.cells yc,.slice yb S.1.words yd,.slice (some ⟨g,0,none⟩) x.hands vg,.slice vh x.deals vi,.int .i64 (x.now+1)] 35)) g (i*14) S.2.1:=⟨_,rfl⟩
 rw [← a6]
 have a9:∀ o,w5.cell? ⟨Y,o,none⟩=#[Value.int .i64 S.1.cap,.int .i64 S.1.sent,.int .i64 S.1.got,.int .i64 S.1.fin,.slice ya S.1.cells yc,.slice yb S.1.words yd,.slice (some ⟨g,0,none⟩) x.hands vg,.slice vh x.deals vi,.int .i64 (x.now+1)][o]?:=fun o=>by rw [a6];simp [go_sem, *]
 have a7:∀ o,w5.frozen? ⟨Y,o,none⟩=false:=fun o=>by rw [a6];simp [go_sem, *]
 have X:hp w5 Y=some (.cells #[.int .i64 S.1.cap,.int .i64 S.1.sent,.int .i64 S.1.got,.int .i64 S.1.fin,.slice ya S.1.cells yc,.slice yb S.1.words yd,.slice (some ⟨g,0,none⟩) x.hands vg,.slice vh x.deals vi,.int .i64 (x.now+1)] 35):=by
  rw [a6]
  exact (bE (fM _ g (i*14) S.2.1) (by simp) (by simpa using b5)).trans (heap_alloc_new Y _)
 have a0:Y.grownBy w5 (some g):=by rw [a6];exact gT (gA (gR _ _)) (fM _ g (i*14) S.2.1)
 have a1:Y<w5.heap.size:=by rw [a6,jL];simp
 have bp:Y+1≤w5.heap.size:=a1
 have ce:some (w.heap.size)≠some g:=by simpa using ay
 have cf:some (w.heap.size+1)≠some g:=by simpa using az
 have cg:some (w.heap.size+1+1)≠some g:=by simpa using b0
 have ci:some (L.heap.size)≠some g:=by simpa using b1
 have cj:some (L.heap.size+1)≠some g:=by simpa using b2
 have o1:=own_below U1.out ab
 have o2:=own_below U2.out ab
 have o3:=O3.out
 have o4:=O4.out
 have e1:=gI (g:=g) (dD o1 o3 (by decide)) rfl
 have e2:=gI (g:=g) (dD o2 o3 (by decide)) rfl
 have e4:=gI (g:=g) (dD o4 o3 (by decide)) rfl
 have r1:=o1.kept a0 (.inr e1)
 have r2:=o2.kept a0 (.inr e2)
 have r4:=o4.kept a0 (.inr e4)
 have r3:cO w5 (L+1+1) (.slice (some ⟨g,0,none⟩) x.hands vg) (x.hands.set i S.2.1):=by rw [a6];exact cO.set (World.ownsRow.alloc o3 _) hi _
 have R1:=aA r1
 have R2:=aA r2
 have R3:=aA r3
 have R4:=aA r4
 have B5:Below w w w5:=iN aa a0 tO (fun k hk=>by simp at hk;omega)
 have b4:∀ j,(Value.slice vh x.deals vi).ownBlock=some j→L.heap.size+1+1≤j∧j<Y.heap.size:=fun j hj=>o4.lt j hj
 have b6:(Value.slice ya S.1.cells yc).ownBlock≠some Y.heap.size:=fun e=>by have:=(o1.lt _ e).2;omega
 have b7:(Value.slice yb S.1.words yd).ownBlock≠some Y.heap.size:=fun e=>by have:=(o2.lt _ e).2;omega
 have b8:(Value.slice (some ⟨g,0,none⟩) x.hands vg).ownBlock≠some Y.heap.size:=fun e=>by have:=(o3.lt _ e).2;omega
 clear a6 o1 o2 o3 o4 r1 r2 r3 r4 e1 e2 e4 O1 O2 O3 O4 U1 U2 ar aj ak aa ab
 have an:=a0.size;(try (simp at an));have zz:=And.intro (bE a0 (b:=L+1) tS (by assumption)) <| And.intro (bE a0 (b:=L) tS (by assumption)) <| And.intro (bE a0 (b:=w+1+1) tS (by assumption)) <| And.intro (bE a0 (b:=w+1) tS (by assumption)) <| bE a0 (b:=w) tS (by assumption);(first|simp [go_sem,u,D,m,z,I,V,K,E,F,A] at zz|simp [go_sem] at zz|skip);(try clear u N M E);(try clear D a2 Z K);(try clear m H G A);(try clear z U O F);(try clear I a5 a4 V);obtain ⟨u,D,m,z,I⟩:=zz;obtain ⟨N,M,E⟩:=bO u;obtain ⟨a2,Z,K⟩:=bO D;obtain ⟨H,G,A⟩:=bO m;obtain ⟨U,O,F⟩:=bO z;obtain ⟨a5,a4,V⟩:=bO I
 clear a0
 go_wp2_with fail;refine aK w zB fun bb=>?_;refine aK w5 zB fun bk=>?_;refine (oz (aL x i).code (aL x i).elem S.2.1.reply _).mono ?_;rintro _ w6 ⟨rfl,J⟩;have b9:Below w w w6:=bT bb J;have ao:=J.size;(try simp at ao);have zz:=And.intro (hQ J (b:=Y)) <| And.intro (hQ J (b:=L+1)) <| And.intro (hQ J (b:=L)) <| And.intro (hQ J (b:=w+1+1)) <| And.intro (hQ J (b:=w+1)) <| hQ J (b:=w);(first|simp [go_sem,X,u,D,m,z,I,V,K,E,a1,F,A] at zz|simp [go_sem] at zz|skip);(try clear X a9 a7 a1);(try clear u N M E);(try clear D a2 Z K);(try clear m H G A);(try clear z U O F);(try clear I a5 a4 V);obtain ⟨X,u,D,m,z,I⟩:=zz;obtain ⟨a9,a7,a1⟩:=bO X;obtain ⟨N,M,E⟩:=bO u;obtain ⟨a2,Z,K⟩:=bO D;obtain ⟨H,G,A⟩:=bO m;obtain ⟨U,O,F⟩:=bO z;obtain ⟨a5,a4,V⟩:=bO I;have a8:Below w5 w5 w6:=bT bk J;clear J bb bk
 rw [hr]
 have q1:=own_below R1.out a8
 have q2:=own_below R2.out a8
 have q3:=own_below R3.out a8
 have q4:=own_below R4.out a8
 go_wp2_with (at_builtin;refine wpList_append_lies _ rfl _ _ 33 rfl (L.heap.size+1+1) 44 i6 _ 7 56 underlying33 aw ax aq ai rfl (by decide) (.slice vh x.deals vi) x.deals (kJ x.deals) rfl (World.ownsRow.alloc q4 _) ⟨w6,0,none⟩ 1 1 (gM (⟨i,(aL x i).code,(aL x i).elem,(aL x i).beg,x.now+1,S.2.1.reply,S.2.1.out⟩:De)).toList rfl rfl ?c2 (by simp [gM,Value.oneCell']) tO ?c3 ?c4 ?c5 (w6+1) (by simp) ?_)
 case c2=>exact MQ w6 _ _
 case c3=>unfold maxLen;omega
 case c4=>omega
 case c5=>simp;omega
 intro g8 q8 w8 o8 g4 ac ba
 have bw:some (w.heap.size)≠(Value.slice vh x.deals vi).ownBlock:=fun e=>by have:=b4 _ e.symm;omega
 have bx:some (w.heap.size+1)≠(Value.slice vh x.deals vi).ownBlock:=fun e=>by have:=b4 _ e.symm;omega
 have bz:some (w.heap.size+1+1)≠(Value.slice vh x.deals vi).ownBlock:=fun e=>by have:=b4 _ e.symm;omega
 have c1:some (L.heap.size)≠(Value.slice vh x.deals vi).ownBlock:=fun e=>by have:=b4 _ e.symm;omega
 have c6:some (L.heap.size+1)≠(Value.slice vh x.deals vi).ownBlock:=fun e=>by have:=b4 _ e.symm;omega
 have c7:some (Y.heap.size)≠(Value.slice vh x.deals vi).ownBlock:=fun e=>by have:=b4 _ e.symm;omega
 have ap:=g4.size;(try (simp at ap));have zz:=And.intro (bE g4 (b:=Y) tS (by assumption)) <| And.intro (bE g4 (b:=L+1) tS (by assumption)) <| And.intro (bE g4 (b:=L) tS (by assumption)) <| And.intro (bE g4 (b:=w+1+1) tS (by assumption)) <| And.intro (bE g4 (b:=w+1) tS (by assumption)) <| bE g4 (b:=w) tS (by assumption);(first|simp [go_sem,X,u,D,m,z,I,V,K,E,a1,F,A] at zz|simp [go_sem] at zz|skip);(try clear X a9 a7 a1);(try clear u N M E);(try clear D a2 Z K);(try clear m H G A);(try clear z U O F);(try clear I a5 a4 V);obtain ⟨X,u,D,m,z,I⟩:=zz;obtain ⟨a9,a7,a1⟩:=bO X;obtain ⟨N,M,E⟩:=bO u;obtain ⟨a2,Z,K⟩:=bO D;obtain ⟨H,G,A⟩:=bO m;obtain ⟨U,O,F⟩:=bO z;obtain ⟨a5,a4,V⟩:=bO I
 have r1:=(World.ownsRow.alloc q1 (.cells (gM (⟨i,(aL x i).code,(aL x i).elem,(aL x i).beg,x.now+1,S.2.1.reply,S.2.1.out⟩:De)) 44)).kept g4 (dD (World.ownsRow.alloc q1 (.cells (gM (⟨i,(aL x i).code,(aL x i).elem,(aL x i).beg,x.now+1,S.2.1.reply,S.2.1.out⟩:De)) 44)) (World.ownsRow.alloc q4 (.cells (gM (⟨i,(aL x i).code,(aL x i).elem,(aL x i).beg,x.now+1,S.2.1.reply,S.2.1.out⟩:De)) 44)) (by decide))
 have r2:=(World.ownsRow.alloc q2 (.cells (gM (⟨i,(aL x i).code,(aL x i).elem,(aL x i).beg,x.now+1,S.2.1.reply,S.2.1.out⟩:De)) 44)).kept g4 (dD (World.ownsRow.alloc q2 (.cells (gM (⟨i,(aL x i).code,(aL x i).elem,(aL x i).beg,x.now+1,S.2.1.reply,S.2.1.out⟩:De)) 44)) (World.ownsRow.alloc q4 (.cells (gM (⟨i,(aL x i).code,(aL x i).elem,(aL x i).beg,x.now+1,S.2.1.reply,S.2.1.out⟩:De)) 44)) (by decide))
 have r3:=(World.ownsRow.alloc q3 (.cells (gM (⟨i,(aL x i).code,(aL x i).elem,(aL x i).beg,x.now+1,S.2.1.reply,S.2.1.out⟩:De)) 44)).kept g4 (dD (World.ownsRow.alloc q3 (.cells (gM (⟨i,(aL x i).code,(aL x i).elem,(aL x i).beg,x.now+1,S.2.1.reply,S.2.1.out⟩:De)) 44)) (World.ownsRow.alloc q4 (.cells (gM (⟨i,(aL x i).code,(aL x i).elem,(aL x i).beg,x.now+1,S.2.1.reply,S.2.1.out⟩:De)) 44)) (by decide))
 have r4:dV w8 (L+1+1) (.slice (some ⟨g8,0,none⟩) (x.deals ++ [(⟨i,(aL x i).code,(aL x i).elem,(aL x i).beg,x.now+1,S.2.1.reply,S.2.1.out⟩:De)]).length q8) (x.deals ++ [(⟨i,(aL x i).code,(aL x i).elem,(aL x i).beg,x.now+1,S.2.1.reply,S.2.1.out⟩:De)]):=dV.snoc (by simpa using o8)
 have av:∀ j,j<L.heap.size+1+1∨j=Y.heap.size→(Value.slice (some ⟨g8,0,none⟩) (x.deals.length+1) q8).ownBlock≠some j:=fun j h1 e=>by
  have e2:g8=j:=by simpa [Value.ownBlock] using e
  rcases ac with ac|ac
  ·have:=b4 _ ac;omega
  ·omega
 have B8:Below w w w8:=iN zB g4 tS (fun k hk=>by have:=(b4 k hk).1;omega)
 clear o8 g4 q1 q2 q3 q4
 go_wp2
 have p1:=aH (lo':=w) r1 tO
 have p2:=aH (lo':=w) r2 tO
 have p3:=aH (lo':=w) r3 tO
 have p4:=aH (lo':=w) r4 tO
 refine bodyPost_ret (v:=.tuple #[.agg #[.int .i64 S.1.cap,.int .i64 S.1.sent,.int .i64 S.1.got,.int .i64 S.1.fin,.slice ya S.1.cells yc,.slice yb S.1.words yd,.slice (some ⟨g,0,none⟩) x.hands vg,.slice (some ⟨g8,0,none⟩) (x.deals.length+1) q8,.int .i64 (x.now+1)],.bool true]) (by simp [results,results135,go_sem, *]) rfl ⟨⟨_,_,_,_,rfl,?_,?_,?_,?_⟩,by exact zB⟩
 ·show aD _ _ _ S.1.cells
  (repeat first|with_reducible exact p1|with_reducible refine rQ ?_ _|with_reducible refine qh ?_|((with_reducible first|refine aI ?_ ?_ _|refine dZ ?_ ?_);rotate_left;focus first|(refine own_ne r1 ?_;(try dsimp only);omega)|(refine dN r1 ?_;(try dsimp only);omega)|exact b6))
 ·show aG _ _ _ S.1.words
  (repeat first|with_reducible exact p2|with_reducible refine rQ ?_ _|with_reducible refine qh ?_|((with_reducible first|refine aI ?_ ?_ _|refine dZ ?_ ?_);rotate_left;focus first|(refine own_ne r2 ?_;(try dsimp only);omega)|(refine dN r2 ?_;(try dsimp only);omega)|exact b7))
 ·show cO _ _ _ (x.hands.set i _)
  (repeat first|with_reducible exact p3|with_reducible refine rQ ?_ _|with_reducible refine qh ?_|((with_reducible first|refine aI ?_ ?_ _|refine dZ ?_ ?_);rotate_left;focus first|(refine own_ne r3 ?_;(try dsimp only);omega)|(refine dN r3 ?_;(try dsimp only);omega)|exact b8))
 ·have e0:x.deals.length+1=(x.deals ++ [(⟨i,(aL x i).code,(aL x i).elem,(aL x i).beg,x.now+1,S.2.1.reply,S.2.1.out⟩:De)]).length:=by simp
  rw [e0]
  (repeat first|with_reducible exact p4|with_reducible refine rQ ?_ _|with_reducible refine qh ?_|((with_reducible first|refine aI ?_ ?_ _|refine dZ ?_ ?_);rotate_left;focus first|(refine own_ne r4 ?_;(try dsimp only);omega)|(refine dN r4 ?_;(try dsimp only);omega)|exact (by rw [← e0];exact av _ (by (try dsimp only) <;> omega))))
end
section
open Go.RowKit
theorem MR {x:Wo} (h:bC x=true):aW x.ch=true:=by
 simp [bC,ik] at h
 exact h.1.1
theorem ic.atS {w W:World} {x:Wo} {a b d e:Option Addr} (h:ic w w x a b d e) (m:Below w w W):ic W W x a b d e:=⟨(h.1.below m).more m.size,(h.2.1.below m).more m.size,(h.2.2.1.below m).more m.size,(h.2.2.2.below m).more m.size⟩
theorem zI:∀ (cs:List C3) (i j:Nat),i<cs.length→j<3→(jB cs)[i*3+j]?=some (iq cs i j)
 | [],i,j,hi,_=>by simp at hi
 | c :: cs,0,j,_,hj=>by
  have:j=0∨j=1∨j=2:=by omega
  rcases this with rfl|rfl|rfl <;> simp [jB,iq,C3.val]
 | c :: cs,i+1,j,hi,hj=>by
  have h:=zI cs i j (by simpa using hi) hj
  have e:(i+1)*3+j=(i*3+j)+3:=by omega
  rw [e]
  simpa [jB,iq] using h
theorem JX (c:Ch) (v x:Int) (a b:Option Addr) (p q lo:Nat) (w:World) (y:aW c=true) (h1:aD w lo (.slice a c.cells p) c.cells) (D:aG w lo (.slice b c.words q) c.words) (E:c.cells.length≤1099511627776) (F:c.words.length≤1099511627776) :
  Calls prog 68 #[.agg (aF c (.slice a c.cells p) (.slice b c.words q)),.int .i64 v,.int .i64 x] w fun r w'=>(∃ z A,r=.returned (.tuple #[.agg (aF (dM c v x) z A),.bool (eY c v x)])∧aD w' w z (dM c v x).cells∧aG w' w A (dM c v x).words)∧Below w w w':=by
 obtain ⟨G,I,_⟩:=sJ h1 (fun i j m u=>zI c.cells i j m u)
 obtain ⟨H,J,_⟩:=sJ D (fun i j m u=>ints_at c.words i j m u)
 have h:=CF c v x a b p q w G I H J E F
 rw [show told c v x=dM c v x by simp [told,y],show vW c v x=eY c v x by simp [vW,y]] at h
 exact h
attribute [local simp] aP
attribute [local go_sem ↓] aQ aY aZ gK aN
attribute [local go_sem] fF
theorem JY (x:Wo) (who:Int) (a b d e:Option Addr) (p q r s:Nat) (w:World) (h:ic w w x a b d e) (m:jk x) (F:bC x=false) :
  Calls prog 21 #[kZ x a b d e p q r s,.int .i64 who] w fun r w'=>fE w w' Wo.zero (.bool false) r:=by
 have E:=aA h
 clear h
 go_enter func21,ntmps21
 go_wp2_with fail;refine aK w zB fun z=>?_;refine (fU x a b d e p q r s _ (E.out.atS z) m).mono ?_;rintro _ H ⟨rfl,u⟩;obtain ⟨D,y,A⟩:=BM z u (b:=w);(try simp at y);(try simp [go_sem] at A);replace G:=uV A;clear A u z
 rw [F]
 go_wp2
 refine bodyPost_ret (v:=.tuple #[.agg #[.int .i64 0,.int .i64 0,.int .i64 0,.int .i64 0,.slice none 0 0,.slice none 0 0,.slice none 0 0,.slice none 0 0,.int .i64 0],.bool false]) (by simp [results,results21,go_sem, *]) rfl ⟨⟨_,_,_,_,rfl,jg _ _⟩,by exact zB⟩
theorem JZ (x:Wo) (who:Int) (a b d e:Option Addr) (p q r s:Nat) (w:World) (h:ic w w x a b d e) (m:jk x) (G:bC x=true) (H:eH x.hands who=false) :
  Calls prog 21 #[kZ x a b d e p q r s,.int .i64 who] w fun r w'=>fE w w' Wo.zero (.bool false) r:=by
 have E:=aA h
 have F:x.hands.length≤1099511627776:=by have:=m.2.2.1;omega
 clear h
 go_enter func21,ntmps21
 go_wp2_with fail;refine aK w zB fun z=>?_;refine (fU x a b d e p q r s _ (E.out.atS z) m).mono ?_;rintro _ J ⟨rfl,u⟩;obtain ⟨D,y,A⟩:=BM z u (b:=w);(try simp at y);(try simp [go_sem] at A);replace I:=uV A;clear A u z
 rw [G]
 go_wp2_with fail
 refine (jV x.hands who w d r _ (by simp [*]) F).mono ?_
 rintro _ _ ⟨rfl,rfl⟩
 rw [H]
 go_wp2
 refine bodyPost_ret (v:=.tuple #[.agg #[.int .i64 0,.int .i64 0,.int .i64 0,.int .i64 0,.slice none 0 0,.slice none 0 0,.slice none 0 0,.slice none 0 0,.int .i64 0],.bool false]) (by simp [results,results21,go_sem, *]) rfl ⟨⟨_,_,_,_,rfl,jg _ _⟩,by exact zB⟩
theorem Gy (x:Wo) (i:Nat) (a b d e:Option Addr) (p q r s:Nat) (w:World) (h:ic w w x a b d e) (z:jl x a b d e p q r s) (m:jk x) (hk:bC x=true) (hi:i<x.hands.length) (a0:((aL x i).pos != 23)=true) :
  Calls prog 21 #[kZ x a b d e p q r s,.int .i64 i] w fun r w'=>fE w w' x (.bool false) r:=by
 have HW:=aA h
 have HZ:=aA z
 have M3:x.hands.length≤1099511627776:=by have:=m.2.2.1;omega
 obtain ⟨b3,o3,rfl,a8,_⟩:∃ b o,d=some ⟨b,o,none⟩∧b<w.heap.size∧Hid (∀ i j,i<x.hands.length→j<14→w.cell? ⟨b,o+i*14+j,none⟩=some (dY x.hands i j)):=by
  rcases h.2.2.1 with M|M
  ·omega
  ·exact M
 clear h z
 have ht:eH x.hands i=true:=by simp [eH,dA];omega
 obtain ⟨M,O⟩:∃ M,Hid (M=aL x i):=⟨_,rfl⟩
 rw [← O.out] at a0
 have a9:(0:Int)≤(i:Int):=by omega
 have aa:(i:Int)<(x.hands.length:Int):=by omega
 go_enter func21,ntmps21
 go_wp2_with fail;refine aK w zB fun I=>?_;refine (fU x a b _ e p q r s _ (HW.out.atS I) m).mono ?_;rintro _ U ⟨rfl,y⟩;have a3:Below w w U:=bT I y;have R:=y.size;(try simp at R);have N:=And.intro (hQ y (b:=w+1)) <| hQ y (b:=w);(try simp [go_sem] at N);(try clear u G F D);(try clear E L J H);obtain ⟨u,E⟩:=N;obtain ⟨G,F,D⟩:=bO u;obtain ⟨L,J,H⟩:=bO E;clear y I
 rw [hk]
 go_wp2_with fail
 refine (jV x.hands i w (some ⟨b3,o3,none⟩) r _ (by simp [*]) M3).mono ?_
 rintro _ _ ⟨rfl,rfl⟩
 rw [ht]
 go_wp2_with fail;refine aK w zB fun I=>?_;refine (oo x a b _ e p q r s _ (HW.out.atS I) HZ.out m).mono ?_;rintro _ X ⟨⟨B,v1,v2,v3,v4,rfl,a2,V,o1,o2,K,o4⟩,A⟩;have a4:Below w w X:=bT I A;have T:=A.size;(try simp at T);have N:=And.intro (hQ A (b:=w+1)) <| hQ A (b:=w);(first|simp [go_sem,u,E,H,D] at N|simp [go_sem] at N|skip);(try clear u G F D);(try clear E L J H);obtain ⟨u,E⟩:=N;obtain ⟨G,F,D⟩:=bO u;obtain ⟨L,J,H⟩:=bO E;clear A I
 obtain ⟨va,vc,rfl,_⟩:=aD.seg o1
 obtain ⟨vb,vd,rfl,_⟩:=aG.seg o2
 obtain ⟨g,vg,rfl,a5,lg,Y,Z⟩:=cO.open1 K hi
 obtain ⟨vh,vi,rfl,_⟩:=dV.seg o4
 have a7:(jU (.pointer (some ⟨g,i*14,none⟩))).run prog X=.ok (.agg (aB M)) X:=by rw [K.ldAt hi,O.out];simp [aL]
 have ab:B<X.heap.size:=(bO V).2.2
 obtain ⟨a1,a6,ac⟩:=bO V
 simp only [iA] at a1
 clear Y Z
 go_wp2
 refine bodyPost_ret (v:=.tuple #[.agg #[x.ch.cap,x.ch.sent,x.ch.got,x.ch.fin,.slice va x.ch.cells vc,.slice vb x.ch.words vd,.slice (some ⟨g,0,none⟩) x.hands vg,.slice vh x.deals vi,x.now],.bool false]) (by simp [results,results21,go_sem, *]) rfl ⟨⟨_,_,_,_,rfl,aH (lo:=U) (own_below (zW o1 u) (aS _ _)) tO,aH (lo:=U) (own_below (zW o2 u) (aS _ _)) tO,aH (lo:=U) (own_below (zW K u) (aS _ _)) tO,aH (lo:=U) (own_below (zW o4 u) (aS _ _)) tO⟩,by exact zB⟩
attribute [local simp] aP
attribute [local go_sem ↓] aQ bF aY bY aZ bZ aX bB aN aU
theorem Ka (x:Wo) (i:Nat) (a b d e:Option Addr) (p q r s:Nat) (w:World) (h:ic w w x a b d e) (z:jl x a b d e p q r s) (m:jk x) (hk:bC x=true) (hi:i<x.hands.length) (av:((aL x i).pos != 23)=false) :
  Calls prog 21 #[kZ x a b d e p q r s,.int .i64 i] w fun r w'=>fE w w' { x with ch:=dM x.ch (aL x i).mine 2 } (.bool (eY x.ch (aL x i).mine 2)) r:=by
 have HW:=aA h
 have HZ:=aA z
 have M3:x.hands.length≤1099511627776:=by have:=m.2.2.1;omega
 obtain ⟨b3,o3,rfl,be,_⟩:∃ b o,d=some ⟨b,o,none⟩∧b<w.heap.size∧Hid (∀ i j,i<x.hands.length→j<14→w.cell? ⟨b,o+i*14+j,none⟩=some (dY x.hands i j)):=by
  rcases h.2.2.1 with O|O
  ·omega
  ·exact O
 clear h z
 have ht:eH x.hands i=true:=by simp [eH,dA];omega
 obtain ⟨O,ab⟩:∃ O,Hid (O=aL x i):=⟨_,rfl⟩
 rw [← ab.out] at av
 have bf:(0:Int)≤(i:Int):=by omega
 have bg:(i:Int)<(x.hands.length:Int):=by omega
 rw [← ab.out]
 obtain ⟨T,hT⟩:∃ T,Hid (T=dM x.ch O.mine 2):=⟨_,rfl⟩
 obtain ⟨Z,ac⟩:∃ Z,Hid (Z=eY x.ch O.mine 2):=⟨_,rfl⟩
 rw [← hT.out,← ac.out]
 have ag:=MR hk
 have ad:Hid (∀ (W:World) (a b:Option Addr) (p q lo:Nat),aD W lo (.slice a x.ch.cells p) x.ch.cells→aG W lo (.slice b x.ch.words q) x.ch.words→Calls prog 68 #[.agg (aF x.ch (.slice a x.ch.cells p) (.slice b x.ch.words q)),.int .i64 O.mine,.int .i64 2] W fun r w'=>(∃ y1 y2,r=.returned (.tuple #[.agg (aF T y1 y2),.bool Z])∧aD w' W y1 T.cells∧aG w' W y2 T.words)∧Below W W w'):=fun W a b p q lo k1 k2=>by rw [hT.out,ac.out];exact JX x.ch O.mine 2 a b p q lo W ag k1 k2 (by have:=m.1;omega) (by have:=m.2.1;omega)
 clear ag hT ac
 go_enter func21,ntmps21
 go_wp2_with fail;refine aK w zB fun bb=>?_;refine (fU x a b _ e p q r s _ (HW.out.atS bb) m).mono ?_;rintro _ w1 ⟨rfl,H⟩;have b1:Below w w w1:=bT bb H;have ai:=H.size;(try simp at ai);have zz:=And.intro (hQ H (b:=w+1)) <| hQ H (b:=w);(try simp [go_sem] at zz);(try clear A N L M);(try clear Y a7 a2 a4);obtain ⟨A,Y⟩:=zz;obtain ⟨N,L,M⟩:=bO A;obtain ⟨a7,a2,a4⟩:=bO Y;clear H bb
 rw [hk]
 go_wp2_with fail
 refine (jV x.hands i w (some ⟨b3,o3,none⟩) r _ (by simp [*]) M3).mono ?_
 rintro _ _ ⟨rfl,rfl⟩
 rw [ht]
 go_wp2_with fail;refine aK w zB fun bb=>?_;refine (oo x a b _ e p q r s _ (HW.out.atS bb) HZ.out m).mono ?_;rintro _ X ⟨⟨B,v1,v2,v3,v4,rfl,b0,D,o1,o2,E,o4⟩,I⟩;have af:Below w w X:=bT bb I;have aj:=I.size;(try simp at aj);have zz:=And.intro (hQ I (b:=w+1)) <| hQ I (b:=w);(first|simp [go_sem,A,Y,a4,M] at zz|simp [go_sem] at zz|skip);(try clear A N L M);(try clear Y a7 a2 a4);obtain ⟨A,Y⟩:=zz;obtain ⟨N,L,M⟩:=bO A;obtain ⟨a7,a2,a4⟩:=bO Y;clear I bb
 obtain ⟨va,vc,rfl,_⟩:=aD.seg o1
 obtain ⟨vb,vd,rfl,_⟩:=aG.seg o2
 obtain ⟨g,vg,rfl,b4,lg,ar,au⟩:=cO.open1 E hi
 obtain ⟨vh,vi,rfl,_⟩:=dV.seg o4
 have aq:(jU (.pointer (some ⟨g,i*14,none⟩))).run prog X=.ok (.agg (aB O)) X:=by rw [E.ldAt hi,ab.out];simp [aL]
 have bk:B<X.heap.size:=(bO D).2.2
 obtain ⟨al,ao,aw⟩:=bO D
 simp only [iA] at al
 clear ar au
 go_wp2_with fail
 generalize a3:World.alloc X _=w5
 have an:hp w5 X=some (.cells (aB O) 49):=by rw [← a3];exact heap_alloc_new _ _
 have J:Below X X w5:=by rw [← a3];exact aS _ _
 have bh:w5=X.heap.size+1:=by rw [← a3];exact wL _ _
 replace A:=eP A J
 replace D:=eP D J
 replace o1:=own_below o1 J
 replace o2:=own_below o2 J
 replace E:=own_below E J
 replace o4:=own_below o4 J
 clear a3 aq al ao aw a7 N a2 L
 have O1:=aA o1
 have O2:=aA o2
 have a8:=D
 have ae:=aA fun W k1 k2=>ad.out W va vb vc vd w1 k1 k2
 clear ad
 refine iT [[],[0],[0,1],[0,1,2],[],[4],[0,1,2,3,4,5],[0,1,2,3,4,5,6],[0,1,2,3,4,5,6,7],[0,1,2,3,4,5,6,7],[],[0,1,2,3,4,5,6,7,8,10],[0,1,2,3,4,5,6,7,9]] [35,36,37,38,39,40,41,34,42,43,8,9] (fun l s wx=>(Below w5 w5 wx)∧(l 0=true→s 35=.pointer (some ⟨B,0,none⟩))∧(l 1=true→s 36=.pointer (some ⟨B,0,none⟩))∧(l 2=true→s 37=.pointer (some ⟨B,0,none⟩))∧(l 3=true→s 38=.agg (aF x.ch (.slice va x.ch.cells vc) (.slice vb x.ch.words vd)))∧(l 4=true→s 39=.pointer (some ⟨X,9,none⟩))∧(l 5=true→s 40=.int .i64 O.mine)∧(l 6=true→s 41=.tuple #[.agg (aF T (s 1003) (s 1004)),.bool Z]∧aD wx w5 (s 1003) T.cells∧aG wx w5 (s 1004) T.words)∧(l 7=true→s 34=.tuple #[.agg (aF T (s 1003) (s 1004)),.bool Z])∧(l 8=true→s 42=.agg (aF T (s 1003) (s 1004)))∧(l 9=true→s 43=.bool Z)∧(l 10=true→iI wx (s 8) w5 (cond (l 11) (aF T (s 1003) (s 1004)) (aF Ch.zero (.slice none 0 0) (.slice none 0 0))) 31)∧(l 12=true→s 9=.bool Z)) (fun s=>⟨(Below.refl _ _).drew,fun h=>absurd h Bool.false_ne_true,fun h=>absurd h Bool.false_ne_true,fun h=>absurd h Bool.false_ne_true,fun h=>absurd h Bool.false_ne_true,fun h=>absurd h Bool.false_ne_true,fun h=>absurd h Bool.false_ne_true,fun h=>absurd h Bool.false_ne_true,fun h=>absurd h Bool.false_ne_true,fun h=>absurd h Bool.false_ne_true,fun h=>absurd h Bool.false_ne_true,fun h=>absurd h Bool.false_ne_true,fun h=>absurd h Bool.false_ne_true⟩) ?_ ?_
 refine ⟨?_,?_,?_,?_,?_,?_,?_,?_,?_,?_,?_,?_,?_,trivial⟩;iterate 13 (intro l s wx hl V y u K R;rotate_left)
 ·intro l s w8 G u
  have U:=u.1
  obtain ⟨-,a5,a6⟩:=(u.2.2.2.2.2.2.2.1 (G 6 rfl))
  obtain ⟨gc,ea,b2,a0⟩:=(u.2.2.2.2.2.2.2.2.2.2.2.1 (G 10 rfl))
  have ec:=(u.2.2.2.2.2.2.2.2.2.2.2.2 (G 12 rfl))
  rw [G 11 rfl] at a0
  dsimp only [cond] at a0
  simp only [ea,ec]
  clear ea ec u G
  generalize s 1003=y1 at *
  generalize s 1004=y2 at *
  replace A:=eP A U
  replace D:=eP D U
  replace E:=own_below E U
  replace o4:=own_below o4 U
  have ap:Below X X w8:=bT J U
  have bi:=U.size
  clear a8 O1 O2 ae an o1 o2
  obtain ⟨xa,xp,rfl,_⟩:=aD.seg a5
  obtain ⟨xb,xq,rfl,_⟩:=aG.seg a6
  have hS:=Iq D T xa xb T.cells xp T.words xq
  obtain ⟨w9,ak⟩:∃ w9,w9=PW w8 B T (.slice xa T.cells xp) (.slice xb T.words xq):=⟨_,rfl⟩
  have gr:=nK w8 B T (.slice xa T.cells xp) (.slice xb T.words xq)
  have a9:=MJ D T (.slice xa T.cells xp) (.slice xb T.words xq)
  rw [← ak] at hS gr a9
  clear ak
  have r1:=World.ownsRow.kept a5 gr (.inr fun e9=>bH a5 D (by decide) _ e9 rfl)
  have r2:=World.ownsRow.kept a6 gr (.inr fun e9=>bH a6 D (by decide) _ e9 rfl)
  have r3:=World.ownsRow.kept E gr (.inr fun e9=>bH E D (by decide) _ e9 rfl)
  have r4:=World.ownsRow.kept o4 gr (.inr fun e9=>bH o4 D (by decide) _ e9 rfl)
  have n1:B≠w.heap.size+1:=by omega
  have a1:=(bE gr (bO A).2.2 (by simp;omega)).trans A
  have bj:=gr.size
  have bc:Below w w w9:=iN (bT af ap) gr tO (fun k hk=>by simp at hk;omega)
  clear gr a5 a6 E o4
  obtain ⟨b9,az,b7⟩:=bO a0
  obtain ⟨b8,ax,b5⟩:=bO D
  obtain ⟨am,ay,b6⟩:=bO a9
  obtain ⟨bm,ba,bl⟩:=bO a1
  simp only [iA] at am
  go_wp2
  refine bodyPost_ret (v:=.tuple #[.agg #[T.cap,T.sent,T.got,T.fin,(.slice xa T.cells xp),(.slice xb T.words xq),.slice (some ⟨g,0,none⟩) x.hands vg,.slice vh x.deals vi,x.now],.bool Z]) (by simp [results,results21,go_sem, *]) rfl ⟨⟨_,_,_,_,rfl,aH (lo:=w5) (zW r1 a1) tO,aH (lo:=w5) (zW r2 a1) tO,aH (lo:=w1) (zW r3 a1) tO,aH (lo:=w1) (zW r4 a1) tO⟩,by exact zB⟩
 ·go_simp
  refine R.out (upd s 35 (.pointer (some ⟨B,0,none⟩))) _ _ (by simp [aC] <;> rfl) ⟨u.out.1,fun _=>rfl,fun h=>absurd h (by rw [show upd l 0 true 1=l 1 from rfl,y 1 rfl];exact Bool.false_ne_true),fun h=>absurd h (by rw [show upd l 0 true 2=l 2 from rfl,y 2 rfl];exact Bool.false_ne_true),fun h=>absurd h (by rw [show upd l 0 true 3=l 3 from rfl,y 3 rfl];exact Bool.false_ne_true),fun h=>(u.out.2.2.2.2.2.1 h),fun h=>(u.out.2.2.2.2.2.2.1 h),fun h=>absurd h (by rw [show upd l 0 true 6=l 6 from rfl,y 6 rfl];exact Bool.false_ne_true),fun h=>absurd h (by rw [show upd l 0 true 7=l 7 from rfl,y 7 rfl];exact Bool.false_ne_true),fun h=>absurd h (by rw [show upd l 0 true 8=l 8 from rfl,y 8 rfl];exact Bool.false_ne_true),fun h=>absurd h (by rw [show upd l 0 true 9=l 9 from rfl,y 9 rfl];exact Bool.false_ne_true),fun h=>(u.out.2.2.2.2.2.2.2.2.2.2.2.1 h),fun h=>absurd h (by rw [show upd l 0 true 12=l 12 from rfl,y 12 rfl];exact Bool.false_ne_true)⟩
 ·have e0:=(u.out.2.1 (V 0 rfl))
  go_simp
  refine R.out (upd s 36 (.pointer (some ⟨B,0,none⟩))) _ _ (by simp [aC,e0] <;> rfl) ⟨u.out.1,fun h=>(u.out.2.1 h),fun _=>rfl,fun h=>absurd h (by rw [show upd l 1 true 2=l 2 from rfl,y 2 rfl];exact Bool.false_ne_true),fun h=>absurd h (by rw [show upd l 1 true 3=l 3 from rfl,y 3 rfl];exact Bool.false_ne_true),fun h=>(u.out.2.2.2.2.2.1 h),fun h=>(u.out.2.2.2.2.2.2.1 h),fun h=>absurd h (by rw [show upd l 1 true 6=l 6 from rfl,y 6 rfl];exact Bool.false_ne_true),fun h=>absurd h (by rw [show upd l 1 true 7=l 7 from rfl,y 7 rfl];exact Bool.false_ne_true),fun h=>absurd h (by rw [show upd l 1 true 8=l 8 from rfl,y 8 rfl];exact Bool.false_ne_true),fun h=>absurd h (by rw [show upd l 1 true 9=l 9 from rfl,y 9 rfl];exact Bool.false_ne_true),fun h=>(u.out.2.2.2.2.2.2.2.2.2.2.2.1 h),fun h=>absurd h (by rw [show upd l 1 true 12=l 12 from rfl,y 12 rfl];exact Bool.false_ne_true)⟩
 ·have e1:=(u.out.2.2.1 (V 1 rfl))
  go_simp
  refine R.out (upd s 37 (.pointer (some ⟨B,0,none⟩))) _ _ (by simp [aC,e1] <;> rfl) ⟨u.out.1,fun h=>(u.out.2.1 h),fun h=>(u.out.2.2.1 h),fun _=>rfl,fun h=>absurd h (by rw [show upd l 2 true 3=l 3 from rfl,y 3 rfl];exact Bool.false_ne_true),fun h=>(u.out.2.2.2.2.2.1 h),fun h=>(u.out.2.2.2.2.2.2.1 h),fun h=>absurd h (by rw [show upd l 2 true 6=l 6 from rfl,y 6 rfl];exact Bool.false_ne_true),fun h=>absurd h (by rw [show upd l 2 true 7=l 7 from rfl,y 7 rfl];exact Bool.false_ne_true),fun h=>absurd h (by rw [show upd l 2 true 8=l 8 from rfl,y 8 rfl];exact Bool.false_ne_true),fun h=>absurd h (by rw [show upd l 2 true 9=l 9 from rfl,y 9 rfl];exact Bool.false_ne_true),fun h=>(u.out.2.2.2.2.2.2.2.2.2.2.2.1 h),fun h=>absurd h (by rw [show upd l 2 true 12=l 12 from rfl,y 12 rfl];exact Bool.false_ne_true)⟩
 ·have e2:=(u.out.2.2.2.1 (V 2 rfl))
  have hL:=Bc (eP a8 u.out.1)
  go_simp
  refine R.out (upd s 38 (.agg (aF x.ch (.slice va x.ch.cells vc) (.slice vb x.ch.words vd)))) _ _ (by simp [aC,e2] <;> rfl) ⟨u.out.1,fun h=>(u.out.2.1 h),fun h=>(u.out.2.2.1 h),fun h=>(u.out.2.2.2.1 h),fun _=>rfl,fun h=>(u.out.2.2.2.2.2.1 h),fun h=>(u.out.2.2.2.2.2.2.1 h),fun h=>absurd h (by rw [show upd l 3 true 6=l 6 from rfl,y 6 rfl];exact Bool.false_ne_true),fun h=>absurd h (by rw [show upd l 3 true 7=l 7 from rfl,y 7 rfl];exact Bool.false_ne_true),fun h=>absurd h (by rw [show upd l 3 true 8=l 8 from rfl,y 8 rfl];exact Bool.false_ne_true),fun h=>absurd h (by rw [show upd l 3 true 9=l 9 from rfl,y 9 rfl];exact Bool.false_ne_true),fun h=>(u.out.2.2.2.2.2.2.2.2.2.2.2.1 h),fun h=>absurd h (by rw [show upd l 3 true 12=l 12 from rfl,y 12 rfl];exact Bool.false_ne_true)⟩
 ·go_simp
  refine R.out (upd s 39 (.pointer (some ⟨X,9,none⟩))) _ _ (by simp [aC] <;> rfl) ⟨u.out.1,fun h=>(u.out.2.1 h),fun h=>(u.out.2.2.1 h),fun h=>(u.out.2.2.2.1 h),fun h=>(u.out.2.2.2.2.1 h),fun _=>rfl,fun h=>absurd h (by rw [show upd l 4 true 5=l 5 from rfl,y 5 rfl];exact Bool.false_ne_true),fun h=>absurd h (by rw [show upd l 4 true 6=l 6 from rfl,y 6 rfl];exact Bool.false_ne_true),fun h=>absurd h (by rw [show upd l 4 true 7=l 7 from rfl,y 7 rfl];exact Bool.false_ne_true),fun h=>absurd h (by rw [show upd l 4 true 8=l 8 from rfl,y 8 rfl];exact Bool.false_ne_true),fun h=>absurd h (by rw [show upd l 4 true 9=l 9 from rfl,y 9 rfl];exact Bool.false_ne_true),fun h=>(u.out.2.2.2.2.2.2.2.2.2.2.2.1 h),fun h=>absurd h (by rw [show upd l 4 true 12=l 12 from rfl,y 12 rfl];exact Bool.false_ne_true)⟩
 ·have e4:=(u.out.2.2.2.2.2.1 (V 4 rfl))
  have z:=(bO (eP an u.out.1)).1 9
  simp [aB] at z
  go_simp
  refine R.out (upd s 40 (.int .i64 O.mine)) _ _ (by simp [aC,e4] <;> rfl) ⟨u.out.1,fun h=>(u.out.2.1 h),fun h=>(u.out.2.2.1 h),fun h=>(u.out.2.2.2.1 h),fun h=>(u.out.2.2.2.2.1 h),fun h=>(u.out.2.2.2.2.2.1 h),fun _=>rfl,fun h=>absurd h (by rw [show upd l 5 true 6=l 6 from rfl,y 6 rfl];exact Bool.false_ne_true),fun h=>absurd h (by rw [show upd l 5 true 7=l 7 from rfl,y 7 rfl];exact Bool.false_ne_true),fun h=>absurd h (by rw [show upd l 5 true 8=l 8 from rfl,y 8 rfl];exact Bool.false_ne_true),fun h=>absurd h (by rw [show upd l 5 true 9=l 9 from rfl,y 9 rfl];exact Bool.false_ne_true),fun h=>(u.out.2.2.2.2.2.2.2.2.2.2.2.1 h),fun h=>absurd h (by rw [show upd l 5 true 12=l 12 from rfl,y 12 rfl];exact Bool.false_ne_true)⟩
 ·have e3:=(u.out.2.2.2.2.1 (V 3 rfl))
  have e5:=(u.out.2.2.2.2.2.2.1 (V 5 rfl))
  go_simp
  go_at_call 68
  refine (ae.out _ (own_below O1.out u.out.1) (own_below O2.out u.out.1)).mono ?_
  rintro _ wy ⟨⟨y1,y2,rfl,X1,X2⟩,hE⟩
  refine R.out (upd (upd (upd s 1003 (y1)) 1004 (y2)) 41 (.tuple #[.agg (aF T y1 y2),.bool Z])) _ _ (by simp [aC,e3,e5] <;> rfl) ⟨bT u.out.1 hE,fun h=>(u.out.2.1 h),fun h=>(u.out.2.2.1 h),fun h=>(u.out.2.2.2.1 h),fun h=>(u.out.2.2.2.2.1 h),fun h=>(u.out.2.2.2.2.2.1 h),fun h=>(u.out.2.2.2.2.2.2.1 h),fun _=>⟨rfl,aH X1 (Below.size u.out.1),aH X2 (Below.size u.out.1)⟩,fun h=>absurd h (by rw [show upd l 6 true 7=l 7 from rfl,y 7 rfl];exact Bool.false_ne_true),fun h=>absurd h (by rw [show upd l 6 true 8=l 8 from rfl,y 8 rfl];exact Bool.false_ne_true),fun h=>absurd h (by rw [show upd l 6 true 9=l 9 from rfl,y 9 rfl];exact Bool.false_ne_true),fun h=>by (have ee:l 11=false:=y 11 rfl);(have F:=u.out.2.2.2.2.2.2.2.2.2.2.2.1 h);rw [ee] at F;rw [show upd l 6 true 11=false from ee];exact F.below hE,fun h=>absurd h (by rw [show upd l 6 true 12=l 12 from rfl,y 12 rfl];exact Bool.false_ne_true)⟩
 ·have e6:=(u.out.2.2.2.2.2.2.2.1 (V 6 rfl)).1
  go_simp
  refine R.out (upd s 34 (.tuple #[.agg (aF T (s 1003) (s 1004)),.bool Z])) _ _ (by simp [aC,e6] <;> rfl) ⟨u.out.1,fun h=>(u.out.2.1 h),fun h=>(u.out.2.2.1 h),fun h=>(u.out.2.2.2.1 h),fun h=>(u.out.2.2.2.2.1 h),fun h=>(u.out.2.2.2.2.2.1 h),fun h=>(u.out.2.2.2.2.2.2.1 h),fun h=>(u.out.2.2.2.2.2.2.2.1 h),fun _=>rfl,fun h=>absurd h (by rw [show upd l 7 true 8=l 8 from rfl,y 8 rfl];exact Bool.false_ne_true),fun h=>absurd h (by rw [show upd l 7 true 9=l 9 from rfl,y 9 rfl];exact Bool.false_ne_true),fun h=>(u.out.2.2.2.2.2.2.2.2.2.2.2.1 h),fun h=>absurd h (by rw [show upd l 7 true 12=l 12 from rfl,y 12 rfl];exact Bool.false_ne_true)⟩
 ·have e7:=(u.out.2.2.2.2.2.2.2.2.1 (V 7 rfl))
  go_simp
  refine R.out (upd s 42 (.agg (aF T (s 1003) (s 1004)))) _ _ (by simp [aC,e7] <;> rfl) ⟨u.out.1,fun h=>(u.out.2.1 h),fun h=>(u.out.2.2.1 h),fun h=>(u.out.2.2.2.1 h),fun h=>(u.out.2.2.2.2.1 h),fun h=>(u.out.2.2.2.2.2.1 h),fun h=>(u.out.2.2.2.2.2.2.1 h),fun h=>(u.out.2.2.2.2.2.2.2.1 h),fun h=>(u.out.2.2.2.2.2.2.2.2.1 h),fun _=>rfl,fun h=>(u.out.2.2.2.2.2.2.2.2.2.2.1 h),fun h=>(u.out.2.2.2.2.2.2.2.2.2.2.2.1 h),fun h=>(u.out.2.2.2.2.2.2.2.2.2.2.2.2 h)⟩
 ·have e7:=(u.out.2.2.2.2.2.2.2.2.1 (V 7 rfl))
  go_simp
  refine R.out (upd s 43 (.bool Z)) _ _ (by simp [aC,e7] <;> rfl) ⟨u.out.1,fun h=>(u.out.2.1 h),fun h=>(u.out.2.2.1 h),fun h=>(u.out.2.2.2.1 h),fun h=>(u.out.2.2.2.2.1 h),fun h=>(u.out.2.2.2.2.2.1 h),fun h=>(u.out.2.2.2.2.2.2.1 h),fun h=>(u.out.2.2.2.2.2.2.2.1 h),fun h=>(u.out.2.2.2.2.2.2.2.2.1 h),fun h=>(u.out.2.2.2.2.2.2.2.2.2.1 h),fun _=>rfl,fun h=>(u.out.2.2.2.2.2.2.2.2.2.2.2.1 h),fun h=>absurd h (by rw [show upd l 9 true 12=l 12 from rfl,y 12 rfl];exact Bool.false_ne_true)⟩
 ·go_simp
  refine R.out (upd s 8 (.pointer (some ⟨wx,0,none⟩))) _ _ (by simp [aC] <;> rfl) ⟨bT u.out.1 (aS _ _),fun h=>(u.out.2.1 h),fun h=>(u.out.2.2.1 h),fun h=>(u.out.2.2.2.1 h),fun h=>(u.out.2.2.2.2.1 h),fun h=>(u.out.2.2.2.2.2.1 h),fun h=>(u.out.2.2.2.2.2.2.1 h),fun h=>(let ⟨e,X1,X2⟩:=(u.out.2.2.2.2.2.2.2.1 h);⟨e,own_below X1 (aS _ _),own_below X2 (aS _ _)⟩),fun h=>(u.out.2.2.2.2.2.2.2.2.1 h),fun h=>(u.out.2.2.2.2.2.2.2.2.2.1 h),fun h=>(u.out.2.2.2.2.2.2.2.2.2.2.1 h),fun _=>by rw [show upd l 10 true 11=false from y 11 rfl];exact iI.new (Below.size u.out.1),fun h=>(u.out.2.2.2.2.2.2.2.2.2.2.2.2 h)⟩
 ·have e8:=(u.out.2.2.2.2.2.2.2.2.2.1 (V 8 rfl))
  have e6:=(u.out.2.2.2.2.2.2.2.1 (V 6 rfl))
  have X1:=e6.2.1
  have X2:=e6.2.2
  clear e6
  obtain ⟨bb,eb,ah,zb⟩:=(u.out.2.2.2.2.2.2.2.2.2.2.2.1 (V 10 rfl))
  rw [hl] at zb
  dsimp only [cond] at zb
  obtain ⟨xa,xp,ea,_⟩:=X1.seg
  obtain ⟨xb,xq,aa,_⟩:=X2.seg
  rw [ea,aa] at e8
  have zn:hp (dF wx bb (aF T (.slice xa T.cells xp) (.slice xb T.words xq))) bb=some (.cells (aF T (s 1003) (s 1004)) 31):=by rw [ea,aa];exact ib zb
  go_simp
  refine R.out (s) _ _ (by simp [aC,eb,e8,ea,aa] <;> rfl) ⟨BK u.out.1 ah,fun h=>(u.out.2.1 h),fun h=>(u.out.2.2.1 h),fun h=>(u.out.2.2.2.1 h),fun h=>(u.out.2.2.2.2.1 h),fun h=>(u.out.2.2.2.2.2.1 h),fun h=>(u.out.2.2.2.2.2.2.1 h),fun h=>⟨(u.out.2.2.2.2.2.2.2.1 h).1,dI (u.out.2.2.2.2.2.2.2.1 h).2.1 zb (by decide),dI (u.out.2.2.2.2.2.2.2.1 h).2.2 zb (by decide)⟩,fun h=>(u.out.2.2.2.2.2.2.2.2.1 h),fun h=>(u.out.2.2.2.2.2.2.2.2.2.1 h),fun h=>(u.out.2.2.2.2.2.2.2.2.2.2.1 h),fun _=>⟨bb,eb,ah,zn⟩,fun h=>(u.out.2.2.2.2.2.2.2.2.2.2.2.2 h)⟩
 ·have e9:=(u.out.2.2.2.2.2.2.2.2.2.2.1 (V 9 rfl))
  go_simp
  refine R.out (upd s 9 (.bool Z)) _ _ (by simp [aC,e9] <;> rfl) ⟨u.out.1,fun h=>(u.out.2.1 h),fun h=>(u.out.2.2.1 h),fun h=>(u.out.2.2.2.1 h),fun h=>(u.out.2.2.2.2.1 h),fun h=>(u.out.2.2.2.2.2.1 h),fun h=>(u.out.2.2.2.2.2.2.1 h),fun h=>(u.out.2.2.2.2.2.2.2.1 h),fun h=>(u.out.2.2.2.2.2.2.2.2.1 h),fun h=>(u.out.2.2.2.2.2.2.2.2.2.1 h),fun h=>(u.out.2.2.2.2.2.2.2.2.2.2.1 h),fun h=>(u.out.2.2.2.2.2.2.2.2.2.2.2.1 h),fun _=>rfl⟩
theorem Bi (x:Wo) (who:Int) (a b d e:Option Addr) (p q r s:Nat) (w:World) (h:ic w w x a b d e) (z:jl x a b d e p q r s) (m:jk x) :
  Calls prog 21 #[kZ x a b d e p q r s,.int .i64 who] w fun r w'=>fE w w' (stopped x who).1 (.bool (stopped x who).2) r:=by
 cases y:bC x with
 | false =>
  rw [show stopped x who=(Wo.zero,false) by simp [stopped,y]]
  exact JY x who a b d e p q r s w h m y
 | true =>
  cases A:eH x.hands who with
  | false =>
   rw [show stopped x who=(Wo.zero,false) by simp [stopped,y,cK,A]]
   exact JZ x who a b d e p q r s w h m y A
  | true =>
   obtain ⟨i,rfl⟩:∃ i:Nat,who=(i:Int):=⟨who.toNat,by simp [eH,dA] at A;omega⟩
   have D:i<x.hands.length:=by simp [eH,dA] at A;omega
   cases u:(aL x i).pos != 23 with
   | true =>
    rw [show stopped x i=(x,false) by simp [stopped,y,cK,A,u]]
    exact Gy x i a b d e p q r s w h z m y D u
   | false =>
    rw [show stopped x i=({ x with ch:=dM x.ch (aL x i).mine 2 },eY x.ch (aL x i).mine 2) by simp [stopped,y,cK,A,u]]
    exact Ka x i a b d e p q r s w h z m y D u
end
end Go.Proofs.YtffhjmepfojhnaaGreat
