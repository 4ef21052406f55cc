/-
  A script that the dice throw; lists lie in memory.
-/
import Derived.Test.YtffhjmepfojhnaaGreatT42
import Derived.Test.YtffhjmepfojhnaaGreatT43
import Derived.Test.YtffhjmepfojhnaaGreatT05
import Derived.Test.YtffhjmepfojhnaaGreatT27
import Derived.Deep.DeepCutAuto
import Derived.Deep.RegionHeld3
set_option maxRecDepth 100000
set_option maxHeartbeats 4000000
set_option linter.unusedSimpArgs false
set_option linter.unusedVariables false
namespace Go.Proofs.YtffhjmepfojhnaaGreat
open _root_.Go.Proofs.Tryz
open Go.RowKit
attribute [local simp] dz
attribute [local go_sem ↓] dA dO dP jv bK
attribute [local go_sem] iG
abbrev yZ (w:World) (lo:Nat) (v:Value) (l:List Od):Prop:=w.ownsRow lo 113 4 v l.length (He l)
theorem Kz {x:Wo} (F:eP x) {o:Od} (h:Ei x.hands o):eP (oJ x o.kd o.who o.k o.e).1∧(oJ x o.kd o.who o.k o.e).1.hands.length=x.hands.length:=by
 obtain ⟨ht,I,h1|h1|h1⟩:=h
 ·simp only [oJ,h1]
  have A:=uj (k:=o.k) (e:=o.e) F ht;exact ⟨A.1,A.2.1⟩
 ·simp only [oJ,h1]
  show eP (bP x o.who).1∧(bP x o.who).1.hands.length=x.hands.length;cases hs:(bP x o.who).2 with
  | true=>obtain ⟨G,H,_⟩:=ll F ht hs;exact ⟨G,H⟩
  | false=>rw [Ku hs];exact ⟨F,rfl⟩
 ·simp only [oJ,h1]
  have A:=qf F ht;exact ⟨A.1,A.2.1⟩
abbrev BW (y:Wo) (v1 v2 v3 v4:Value):Obj:=.cells #[y.ch.cap,y.ch.sent,y.ch.got,y.ch.fin,v1,v2,v3,v4,y.now] 35
structure Ij (B g b:Nat) (w:World) (x0 y:Wo) (u1 u2 u3 u4 v1 v2 v3 v4 vl:Value) (ls:List Od) (wr:World):Prop where
 u:dG wr (w.heap.size+1+1) u1 u2 u3 u4 x0
 v:dG wr (w.heap.size+1+1) v1 v2 v3 v4 y
 l:yZ wr (w.heap.size+1+1) vl ls
 zu:hp wr b=some (BW x0 u1 u2 u3 u4)
 zv:hp wr (b+1)=some (BW y v1 v2 v3 v4)
 z0:hp wr w.heap.size=some (BW Wo.zero (.slice none 0 0) (.slice none 0 0) (.slice none 0 0) (.slice none 0 0))
 z1:hp wr (w.heap.size+1)=some (BW Wo.zero (.slice none 0 0) (.slice none 0 0) (.slice none 0 0) (.slice none 0 0))
 di:DI wr B g
 gr:Gr g w wr
structure Vx (x0:Wo) (ls:List Od):Prop where
 r:eP (ow x0 ls)
 n:(ow x0 ls).hands.length=x0.hands.length
 o:∀ o,o ∈ ls→Ei x0.hands.length o
theorem Ij.gr' {B g b:Nat} {w:World} {x0 y:Wo} {u1 u2 u3 u4 v1 v2 v3 v4 vl:Value} {ls:List Od} {wr w':World} (h:Ij B g b w x0 y u1 u2 u3 u4 v1 v2 v3 v4 vl ls wr) (F:Gr g wr w') (G:DI w' B g) (I:g<w.heap.size) (H:w.heap.size+1<b):Ij B g b w x0 y u1 u2 u3 u4 v1 v2 v3 v4 vl ls w' :=
 ⟨dG.gr h.u F tO,dG.gr h.v F tO,World.ownsRow.kept h.l F (.inr (own_ne h.l tO)),(bM F (bO h.zu).2.2 dQ).trans h.zu,(bM F (bO h.zv).2.2 dQ).trans h.zv,(bM F (bO h.z0).2.2 dQ).trans h.z0,(bM F (bO h.z1).2.2 dQ).trans h.z1,G,gT h.gr F⟩
theorem Ij.alloc {B g b:Nat} {w:World} {x0 y:Wo} {u1 u2 u3 u4 v1 v2 v3 v4 vl:Value} {ls:List Od} {wr:World} (h:Ij B g b w x0 y u1 u2 u3 u4 v1 v2 v3 v4 vl ls wr) (o:Obj):Ij B g b w x0 y u1 u2 u3 u4 v1 v2 v3 v4 vl ls (wr.alloc o) :=
 ⟨dG.alloc h.u o,dG.alloc h.v o,World.ownsRow.alloc h.l o,(o9 (bL _ _) (bO h.zu).2.2).trans h.zu,(o9 (bL _ _) (bO h.zv).2.2).trans h.zv,(o9 (bL _ _) (bO h.z0).2.2).trans h.z0,(o9 (bL _ _) (bO h.z1).2.2).trans h.z1,DI.alloc h.di,gB h.gr (bL _ _)⟩
theorem Ij.below {B g b:Nat} {w:World} {x0 y:Wo} {u1 u2 u3 u4 v1 v2 v3 v4 vl:Value} {ls:List Od} {wr w':World} (h:Ij B g b w x0 y u1 u2 u3 u4 v1 v2 v3 v4 vl ls wr) (F:Below wr wr w'):Ij B g b w x0 y u1 u2 u3 u4 v1 v2 v3 v4 vl ls w' :=
 ⟨dG.below h.u F,dG.below h.v F,own_below h.l F,(o9 F (bO h.zu).2.2).trans h.zu,(o9 F (bO h.zv).2.2).trans h.zv,(o9 F (bO h.z0).2.2).trans h.z0,(o9 F (bO h.z1).2.2).trans h.z1,DI.below h.di F,gB h.gr F⟩
theorem Vu:(Tryz.prog.info? 113).map (fun i=>(i.zero,i.size,i.bytes))=some (some (.agg #[.int .i64 0,.int .i64 0,.int .i64 0,.int .i64 0]),4,32):=by kernel_rfl
theorem Fh {W:World} {b c:Nat} (h:b≠c) (F v1 v2 v3 v4 G H I J:Value):hp (((((((((W.setCell ⟨c,0,none⟩ F).setCell ⟨c,1,none⟩ v1).setCell ⟨c,2,none⟩ v2).setCell ⟨c,3,none⟩ v3).setCell ⟨c,4,none⟩ v4).setCell ⟨c,5,none⟩ G).setCell ⟨c,6,none⟩ H).setCell ⟨c,7,none⟩ I).setCell ⟨c,8,none⟩ J) b=hp W b:=by
 repeat refine (Below.heap_setCell _ _ _ b h).trans ?_
 rfl
theorem QS {w W w':World} {g:Nat} {row:Option Nat} (h:Gr g w W) (F:W.grownBy w' row) (hr:∀ k,row=some k→w.heap.size≤k):Gr g w w' :=
 ⟨F.os.trans h.os,F.tape.trans h.tape,F.output.trans h.output,Nat.le_trans h.size F.size,fun i G H=>(F.block i (Nat.lt_of_lt_of_le G h.size) (fun e=>by have:=hr _ e.symm;omega)).trans (h.block i G H)⟩
theorem Ij.append {B g b:Nat} {w:World} {x0 y:Wo} {u1 u2 u3 u4 v1 v2 v3 v4 vl v':Value} {ls H:List Od} {wr w':World} {F:Obj} (h:Ij B g b w x0 y u1 u2 u3 u4 v1 v2 v3 v4 vl ls wr) (gr:(wr.alloc F).grownBy w' vl.ownBlock) (K:yZ w' (w+1+1) v' H) (M:g<w.heap.size) (L:B≤g):Ij B g b w x0 y u1 u2 u3 u4 v1 v2 v3 v4 v' H w':=by
 have I:∀ {c:Nat} {J:Array Value} {T:TypeId},hp wr c=some (.cells J T)→T≠113→hp w' c=some (.cells J T):=fun {c J T} z ne =>
  (gr.block c (by have:=(bO z).2.2;simp;omega) (fun e=>fe h.l z ne.symm c e.symm rfl)).trans ((o9 (bL _ _) (bO z).2.2).trans z)
 have lo:∀ q,vl.ownBlock=some q→w.heap.size+1+1≤q:=fun q G=>(h.l.lt q G).1
 have hs:=h.gr.size;refine ⟨⟨?_,?_,?_,?_⟩,⟨?_,?_,?_,?_⟩,K,I h.zu cB,I h.zv cB,I h.z0 cB,I h.z1 cB,?_,?_⟩
 ·exact (h.u.1.alloc F).kept gr (dF h.u.1 h.l cB)
 ·exact (h.u.2.1.alloc F).kept gr (dF h.u.2.1 h.l cB)
 ·exact (h.u.2.2.1.alloc F).kept gr (dF h.u.2.2.1 h.l cB)
 ·exact (h.u.2.2.2.alloc F).kept gr (dF h.u.2.2.2 h.l cB)
 ·exact (h.v.1.alloc F).kept gr (dF h.v.1 h.l cB)
 ·exact (h.v.2.1.alloc F).kept gr (dF h.v.2.1 h.l cB)
 ·exact (h.v.2.2.1.alloc F).kept gr (dF h.v.2.2.1 h.l cB)
 ·exact (h.v.2.2.2.alloc F).kept gr (dF h.v.2.2.2 h.l cB)
 ·refine DI.keep (DI.alloc h.di) (gr.block g dQ (fun e=>by have:=lo g e.symm;omega)) (mO (Below.refl _ _) gr dQ (fun q G=>by have:=lo q G;omega))
 ·exact QS (gB h.gr (bL _ _)) gr (fun q G=>by have:=lo q G;omega)
theorem yZ.snoc {w:World} {lo:Nat} {v:Value} {ls:List Od} {o:Od} (h:w.ownsRow lo 113 4 v (ls.length+1) (He ls ++ (Dv o).toList)):yZ w lo v (ls ++ [o]):=by
 unfold yZ;rw [List.length_append,show He (ls ++ [o])=He ls ++ (Dv o).toList by simp [He]]
 exact h
theorem Vx.snoc {x0:Wo} {ls:List Od} (h:Vx x0 ls) {o:Od} (G:Ei x0.hands o):Vx x0 (ls ++ [o]):=by
 have D:=Kz h.r (o:=o) (by rw [h.n];exact G);refine ⟨by rw [xV];exact D.1,by rw [xV];exact D.2.trans h.n,fun q F=>?_⟩;rcases List.mem_append.1 F with F|F
 ·exact h.o q F
 ·simp at F;subst F;exact G
theorem K3 (B g:Nat) (m:Int) (w:World) (h:DI w B g) (du:1≤m) (dv:m≤60) :
  Calls prog 35 #[.pointer (some ⟨g,0,none⟩),.int .i64 m] w fun r w'=>(∃ cp tk ls u1 u2 u3 u4 v1 v2 v3 v4 vl,r=.returned (.tuple #[.agg #[.int .i64 (dS cp tk).1.ch.cap,.int .i64 (dS cp tk).1.ch.sent,.int .i64 (dS cp tk).1.ch.got,.int .i64 (dS cp tk).1.ch.fin,u1,u2,u3,u4,.int .i64 (dS cp tk).1.now],vl,.agg #[.int .i64 (ow (dS cp tk).1 ls).ch.cap,.int .i64 (ow (dS cp tk).1 ls).ch.sent,.int .i64 (ow (dS cp tk).1 ls).ch.got,.int .i64 (ow (dS cp tk).1 ls).ch.fin,v1,v2,v3,v4,.int .i64 (ow (dS cp tk).1 ls).now]])∧0≤cp∧cp≤2∧1≤tk∧tk≤4∧(∀ o,o ∈ ls→Ei (dS cp tk).1.hands.length o)∧ls.length≤720∧dG w' w u1 u2 u3 u4 (dS cp tk).1∧dG w' w v1 v2 v3 v4 (ow (dS cp tk).1 ls)∧yZ w' w vl ls)∧DI w' B g∧Gr g w w':=by
 have hl:=h.lt;have cr:=h.le;have cy:some w.heap.size≠some g:=by simp;omega
 have cz:some (w.heap.size+1)≠some g:=by simp;omega
 have D:=aA h;clear h;go_enter func35,ntmps35;go_wp2_with fail;refine (mI B g 3 _ NU tO tO).mono ?_;rintro _ w1 ⟨⟨x1,rfl,au,dd⟩,bg,a9⟩;have bq:=a9.size;(try (simp at bq));have zz:=And.intro (bM a9 (b:=w+1) tS dM) <| bM a9 (b:=w) tS dM;(try simp [go_sem] at zz);(try clear F K J H);(try clear G V U N);obtain ⟨F,G⟩:=zz;obtain ⟨K,J,H⟩:=bO F;obtain ⟨V,U,N⟩:=bO G
 have cf:Gr g w w1:=gT lY a9;go_wp2_with fail;refine (mI B g 4 _ bg tO tO).mono ?_;rintro _ w2 ⟨⟨x2,rfl,df,dg⟩,bh,aa⟩;have br:=aa.size;(try (simp at br));have zz:=And.intro (bM aa (b:=w+1) tS dM) <| bM aa (b:=w) tS dM;(first|simp [go_sem,F,G,N,H] at zz|simp [go_sem] at zz|skip);(try clear F K J H);(try clear G V U N);obtain ⟨F,G⟩:=zz;obtain ⟨K,J,H⟩:=bO F;obtain ⟨V,U,N⟩:=bO G
 have cg:Gr g w w2:=gT cf aa;obtain ⟨nt,nr,nl,nw⟩:=uT (cap:=x1) (tasks:=1+x2) au tO tO tO;have bc:=vO x1 (1+x2) w2 au tO tO tO;rw [nt] at bc;generalize bx:(dS x1 (1+x2)).1=x0 at *;have HN:=aA (And.intro nr (And.intro nl nw));have HX:=aA bx;clear nt nr nl nw bx;go_wp2_with fail;refine aK w2 zB fun bk=>?_;refine (bc).mono ?_;rintro _ X ⟨⟨u1,u2,u3,u4,rfl,af⟩,a8⟩;have bt:=a8.size;(try simp at bt);have zz:=And.intro (hQ a8 (b:=w+1)) <| hQ a8 (b:=w);(first|simp [go_sem,F,G,N,H] at zz|simp [go_sem] at zz|skip);(try clear F K J H);(try clear G V U N);obtain ⟨F,G⟩:=zz;obtain ⟨K,J,H⟩:=bO F;obtain ⟨V,U,N⟩:=bO G;have a6:Below w2 w2 X:=bT bk a8;clear a8 bk
 have aw:=bh.below a6;have dk:Gr g w X:=gT cg ⟨a6.os,a6.tape,a6.output,a6.size,fun i hi _=>a6.block i hi⟩;have UO:=aA af;obtain ⟨a1,a2,a3,a4,c1,c2,c3,c4,rfl,rfl,rfl,rfl,_⟩:=af.opens;clear af;have dx:g<X.heap.size:=aw.lt;have d0:some X.heap.size≠some g:=by simp;omega
 have d5:some (X.heap.size+1)≠some g:=by simp;omega
 have D3:=aA aw;clear bg bh aw a9 aa;go_wp2_with fail;refine (mI B g m _ (by repeat (with_reducible first|exact D3.out|refine DI.alloc ?_|refine DI.drew ?_)) tO tO).mono ?_;rintro _ w4 ⟨⟨x4,rfl,dh,dj⟩,bi,O⟩;have bb:Gr g w w4:=gT lY O;have ck:g<w.heap.size+1+1:=tO;have u3:=dG.lo (lo':=w+1+1) UO.out tO;have u4:=dG.gr (dG.alloc (dG.alloc (dG.alloc u3 _) _) _) O ck;have l4:yZ w4 (w+1+1) (.slice (some ⟨X+1+1,0,none⟩) 0 0) []:=World.ownsRow.kept (iQ _ _ _ _ (X+1+1) cK dQ) O (.inr (by simp [Value.ownBlock];omega))
 have q0:hp w4 w=some (BW Wo.zero (.slice none 0 0) (.slice none 0 0) (.slice none 0 0) (.slice none 0 0)):=(bM O oC cy).trans ((o9 (w:=X) zB N).trans G);have q1:hp w4 (w+1)=some (BW Wo.zero (.slice none 0 0) (.slice none 0 0) (.slice none 0 0) (.slice none 0 0)):=(bM O oC cz).trans ((o9 (w:=X) zB H).trans F);have q2:hp w4 X=some (BW x0 (.slice a1 x0.ch.cells c1) (.slice a2 x0.ch.words c2) (.slice a3 x0.hands c3) (.slice a4 x0.deals c4)):=(bM O oC d0).trans qz
 have q3:hp w4 (X+1)=some (BW x0 (.slice a1 x0.ch.cells c1) (.slice a2 x0.ch.words c2) (.slice a3 x0.hands c3) (.slice a4 x0.deals c4)):=(bM O oC d5).trans qz;have T:Ij B g X w x0 x0 (.slice a1 x0.ch.cells c1) (.slice a2 x0.ch.words c2) (.slice a3 x0.hands c3) (.slice a4 x0.deals c4) (.slice a1 x0.ch.cells c1) (.slice a2 x0.ch.words c2) (.slice a3 x0.hands c3) (.slice a4 x0.deals c4) (.slice (some ⟨X+1+1,0,none⟩) 0 0) [] w4:=⟨u4,u4,l4,q2,q3,q0,q1,bi,bb⟩
 clear q0 q1 q2 q3 G F V K U J N H;have bp:=O.size;simp at bp;have L0:Vx x0 []:=⟨HN.out.1,rfl,fun o h=>by cases h⟩;clear u3 u4 l4 bi O;go_wp2_with fail;have av:w+1<X.heap.size:=tO;go_loopw [10,11] (fun vl n wr=>∃ (k:Nat) (ls:List Od) (v1 v2 v3 v4:Value),n=.int .i64 k∧k≤79∧ls.length+9*k≤720∧Vx x0 ls∧Ij B g X w x0 (ow x0 ls) (.slice a1 x0.ch.cells c1) (.slice a2 x0.ch.words c2) (.slice a3 x0.hands c3) (.slice a4 x0.deals c4) v1 v2 v3 v4 vl ls wr) (fun _ n _=>(intOf n).toNat)
 case atStart=>exact ⟨(20+x4).toNat,[],_,_,_,_,by simp;omega,by omega,by simp;omega,L0,T⟩
 case round =>
  clear T bp bb;obtain ⟨k,ls,v1,v2,v3,v4,rfl,da,db,L,T⟩:=hrel;have hy:=L.r;have c7:=L.n;obtain ⟨y,ag⟩:∃ y,ow x0 ls=y:=⟨_,rfl⟩;rw [ag] at T hy c7;obtain ⟨b1,b2,b3,b4,d1,d2,d3,d4,rfl,rfl,rfl,rfl,s1,t1,s2,t2,s3,t3,s4,t4⟩:=T.v.opens;have G:=T.z0;have F:=T.z1;have M:=T.zu;have I:=T.zv;obtain ⟨V,U,N⟩:=bO G;obtain ⟨K,J,H⟩:=bO F;obtain ⟨ac,a7,ab⟩:=bO M;obtain ⟨a5,Y,R⟩:=bO I;by_cases hk:k=0
  ·subst hk
   have na:=T.u.ne (b:=w) tO;have nb:=T.u.ne (b:=w+1) tO;have nc:=T.v.ne (b:=w) tO;have nd:=T.v.ne (b:=w+1) tO;have ne:=own_ne T.l (b:=w) tO;have nf:=own_ne T.l (b:=w+1) tO;have hu:=T.u.lo (lo':=w) tO;have hv:=T.v.lo (lo':=w) tO;have az:=aL (lo':=w) T.l tO;have ay:=T.di;have ci:=T.gr;have LX:=aA L;clear T L s1 s2 s3 s4;go_wp2_with fail
   go_region
   all_goals go_wp2
   all_goals (refine bodyPost_ret (v:=.tuple #[.agg #[x0.ch.cap,x0.ch.sent,x0.ch.got,x0.ch.fin,.slice a1 x0.ch.cells c1,.slice a2 x0.ch.words c2,.slice a3 x0.hands c3,.slice a4 x0.deals c4,x0.now],u10,.agg #[y.ch.cap,y.ch.sent,y.ch.got,y.ch.fin,.slice b1 y.ch.cells d1,.slice b2 y.ch.words d2,.slice b3 y.hands d3,.slice b4 y.deals d4,y.now]]) (by simp [results,results35,go_sem, *]) rfl ⟨⟨x1,1+x2,ls,.slice a1 x0.ch.cells c1,.slice a2 x0.ch.words c2,.slice a3 x0.hands c3,.slice a4 x0.deals c4,.slice b1 y.ch.cells d1,.slice b2 y.ch.words d2,.slice b3 y.hands d3,.slice b4 y.deals d4,u10,?_,au,by omega,by omega,by omega,?_,by omega,?_,?_,?_⟩,?_,?_⟩)
   ·rw [HX.out,ag]
   ·rw [HX.out];exact LX.out.o
   ·rw [HX.out];(repeat (first|with_reducible assumption|with_reducible refine dG.alloc ?_ _|with_reducible refine dG.drew ?_|((with_reducible refine dG.store ?_ ?_ _);rotate_left;(focus (first|exact na|exact nb|exact nc|exact nd)))))
   ·rw [HX.out,ag];(repeat (first|with_reducible assumption|with_reducible refine dG.alloc ?_ _|with_reducible refine dG.drew ?_|((with_reducible refine dG.store ?_ ?_ _);rotate_left;(focus (first|exact na|exact nb|exact nc|exact nd)))))
   ·(repeat (first|with_reducible exact az|with_reducible refine World.ownsRow.drew ?_|((with_reducible refine aV ?_ ?_ _);rotate_left;(focus (first|exact ne|exact nf)))))
   ·(repeat (with_reducible first|exact ay|((with_reducible refine DI.setCell ?_ ?_ ?_);rotate_left;(focus (simp;omega));(focus (simp;omega)))|refine DI.alloc ?_|refine DI.drew ?_))
   ·exact lY
  ·have dt:(0:Int)<(k:Int):=by omega
   have y1:=hy.h1;have y6:=hy.h6;obtain ⟨gh,gq,eg,_,lg,_,_⟩:=dY.open1 T.v.2.2.1 (i:=0) tO;simp at eg;obtain ⟨rfl,rfl⟩:=eg;have cj:∀ ad,some (⟨gh,0,none⟩:Addr)=some ad→ad.block≠g:=fun ad e=>by cases e;have:=(T.v.2.2.1.lt gh rfl).1;simp;omega
   have SH:=aA T;have LH:=aA L;have S3:=aA s3;clear T L s1 s2 s3 s4 c7;go_wp2_with fail;refine (QQ B g y (100+(k:Int)) _ _ _ _ _ _ _ _ _ SH.out.di S3.out cj hy tO tO).mono ?_;rintro _ w5 ⟨⟨kd,who,kk,ce,rfl,ht,bm,cq⟩,bj,Z⟩;have ap:=aA (SH.out.gr' Z bj hl av);have ca:u10.ownBlock≠some w5.heap.size:=dN ap.out.l (Nat.le_refl _);have bu:=Z.size;(try (simp at bu));have zz:=And.intro (bM Z (b:=X+1) tS dM) <| And.intro (bM Z (b:=X) tS dM) <| And.intro (bM Z (b:=w+1) tS dM) <| bM Z (b:=w) tS dM;(first|simp [go_sem,I,M,F,G,N,ab,R,H] at zz|simp [go_sem] at zz|skip);(try clear I a5 Y R);(try clear M ac a7 ab);(try clear F K J H);(try clear G V U N);obtain ⟨I,M,F,G⟩:=zz;obtain ⟨a5,Y,R⟩:=bO I;obtain ⟨ac,a7,ab⟩:=bO M;obtain ⟨K,J,H⟩:=bO F;obtain ⟨V,U,N⟩:=bO G
   clear Z bj;go_upto_region 9 with fail
   have aj:=aA (ap.out.alloc (.cells #[.int .i64 kd,.int .i64 who,.int .i64 kk,.int .i64 ce] 113));have zo:=heap_alloc_new w5 (.cells #[.int .i64 kd,.int .i64 who,.int .i64 kk,.int .i64 ce] 113);have dl:g<w5.heap.size:=tO;go_cut [45] (fun d8 wx=>∃ bl:Bool,d8=.bool bl∧Ij B g X w x0 y (.slice a1 x0.ch.cells c1) (.slice a2 x0.ch.words c2) (.slice a3 x0.hands c3) (.slice a4 x0.deals c4) (.slice b1 y.ch.cells d1) (.slice b2 y.ch.words d2) (.slice (some ⟨gh,0,none⟩) y.hands d3) (.slice b4 y.deals d4) u10 ls wx∧hp wx w5=some (.cells #[.int .i64 kd,.int .i64 who,.int .i64 kk,.int .i64 ce] 113))
   case first =>
    by_cases bn:kd=2
    ·subst bn
     go_wp2_with fail;refine (mI B g 3 _ aj.out.di tO tO).mono ?_
     rintro _ w7 ⟨⟨z,rfl,cv,cw⟩,ax,ae⟩;have aq:=aj.out.gr' ae ax hl av;have b6:=(bM ae (b:=w5) cK dQ).trans zo;go_wp2_with fail;go_meet;exact ⟨_,rfl,aq,b6⟩
    ·go_wp2_with fail
     go_meet;exact ⟨_,rfl,aj.out,zo⟩
   case rest =>
    obtain ⟨bl,rfl,b8,ak⟩:=hcut;clear ap aj zo V K ac a5 U J a7 Y G F M I;have ai:=aA b8;clear b8;generalize wc=w6 at *;have c9:=(bO ak).2.2
    go_upto_if 45 with fail
    go_cut [13] (fun d7 wx=>∃ j:Nat,d7=.int .i64 j∧1≤j∧j≤9∧Ij B g X w x0 y (.slice a1 x0.ch.cells c1) (.slice a2 x0.ch.words c2) (.slice a3 x0.hands c3) (.slice a4 x0.deals c4) (.slice b1 y.ch.cells d1) (.slice b2 y.ch.words d2) (.slice (some ⟨gh,0,none⟩) y.hands d3) (.slice b4 y.deals d4) u10 ls wx∧hp wx w5=some (.cells #[.int .i64 kd,.int .i64 who,.int .i64 kk,.int .i64 ce] 113))
    case first =>
     cases bl with
     | true =>
      go_wp2_with fail;refine (mI B g 9 _ ai.out.di tO tO).mono ?_
      rintro _ w7 ⟨⟨z,rfl,cv,cw⟩,ax,ae⟩;have aq:=ai.out.gr' ae ax hl av;have b6:=(bM ae (b:=w5) c9 dQ).trans ak;go_wp2_with fail;go_meet;exact ⟨(1+z).toNat,by simp;omega,by omega,by omega,aq,b6⟩
     | false =>
      go_wp2_with fail;go_meet
      exact ⟨1,rfl,by omega,by omega,ai.out,ak⟩
    case rest =>
     obtain ⟨j0,rfl,dp,cn,b9,cc⟩:=hcut;clear ai ak c9;have LX:=LH.out;have am:Ei x0.hands ⟨kd,who,kk,ce⟩:=⟨by have:=ht;rw [bW,← ag,LX.n] at this;exact this,bm,cq⟩;go_wp2_with fail;go_loopw [10,13] (fun vl t wr=>∃ (j:Nat) (a0:List Od) (v1 v2 v3 v4:Value),t=.int .i64 j∧j≤9∧a0.length+j+9*(k - 1)≤720∧Vx x0 a0∧Ij B g X w x0 (ow x0 a0) (.slice a1 x0.ch.cells c1) (.slice a2 x0.ch.words c2) (.slice a3 x0.hands c3) (.slice a4 x0.deals c4) v1 v2 v3 v4 vl a0 wr∧hp wr w5=some (.cells #[.int .i64 kd,.int .i64 who,.int .i64 kk,.int .i64 ce] 113)∧vl.ownBlock≠some w5.heap.size) (fun _ t _=>(intOf t).toNat)
     case atStart=>exact ⟨j0,ls,_,_,_,_,rfl,cn,by omega,LX,by rw [ag];exact b9,cc,ca⟩
     case round =>
      clear b9 cc ca;obtain ⟨j,a0,v1,v2,v3,v4,rfl,dq,ct,L2,S2,b5,b0⟩:=hrel;by_cases hj:j=0
      ·subst hj
       go_wp2;go_roundw
       case rel=>exact ⟨k - 1,a0,_,_,_,_,by go_num,by omega,by omega,L2,S2⟩
       case measure=>simp [intOf];omega
      ·have dr:(0:Int)<(j:Int):=by omega
       have c6:=L2.r;obtain ⟨y2,ah⟩:∃ y2,ow x0 a0=y2:=⟨_,rfl⟩;rw [ah] at S2 c6;obtain ⟨e1,e2,e3,e4,f1,f2,f3,f4,rfl,rfl,rfl,rfl,_⟩:=S2.v.opens;have cu:bW y2 who=true:=by have:=L2.n;rw [ah] at this;rw [bW,this];exact am.1
       obtain ⟨i5,cm,cx,bv,bf⟩:=info_parts Vu;have bo:w5<wr.heap.size:=(bO b5).2.2;obtain ⟨xo,fo,_⟩:=bO b5;have ao:=aA S2;have cd:=aA L2;clear S2 L2;go_wp2_with (at_builtin;refine wpList_append_lies _ rfl _ _ 59 rfl (w.heap.size+1+1) 113 i5 _ 4 32 underlying59 cm cx bv bf rfl cB _ _ _ rfl (World.ownsRow.alloc ao.out.l _) ⟨wr,0,none⟩ 1 1 (Dv ⟨kd,who,kk,ce⟩).toList rfl rfl (World.news_of_block (cs:=Dv ⟨kd,who,kk,ce⟩) (t:=113) (fr:=(0,0)) (heap_alloc_new wr _)) (by simp [Dv,Value.oneCell']) tO ?c3 ?c4 ?c5 (wr+1) cK ?_)
       case c3=>unfold maxLen;omega
       case c4=>omega
       case c5=>have:=(bO ao.out.z1).2.2;simp;omega
       intro g8 q8 w8 o8 ar be dc;have S8:=aA (ao.out.append ar (yZ.snoc o8) hl cr);have b7:hp w8 w5=some (.cells #[.int .i64 kd,.int .i64 who,.int .i64 kk,.int .i64 ce] 113):=(ar.block w5 dQ (fun e=>b0 e.symm)).trans ((o9 (bL _ _) bo).trans b5);have d6:(Value.slice (some ⟨g8,0,none⟩) (a0.length+1) q8).ownBlock≠some w5.heap.size:=by
        rcases be with h8|h8
        ·intro e
         exact b0 (h8.trans e)
        ·simp [Value.ownBlock];omega
       clear o8 ar be xo fo bo b0;have G:=S8.out.z0;have F:=S8.out.z1;have M:=S8.out.zu;have I:=S8.out.zv;obtain ⟨V,U,N⟩:=bO G;obtain ⟨K,J,H⟩:=bO F;obtain ⟨ac,a7,ab⟩:=bO M;obtain ⟨a5,Y,R⟩:=bO I;obtain ⟨cb,ba,c8⟩:=bO b7;have bw:X+1<w8.heap.size:=R;have DD:=TQ y2 kd who kk ce e1 e2 e3 e4 f1 f2 f3 f4 _ w8 S8.out.v c6 cu bm;have an:(oJ y2 kd who kk ce).1=ow x0 (a0 ++ [⟨kd,who,kk,ce⟩]):=by rw [xV,ah]
       have L9:=cd.out.snoc am;generalize (oJ y2 kd who kk ce).1=y9 at *;generalize (oJ y2 kd who kk ce).2=n9 at *;go_wp2_with fail;refine DD.mono ?_;rintro _ w9 ⟨⟨q1,q2,q3,q4,rfl,qo⟩,al⟩;have S9:=aA (S8.out.below al);have d9:=(o9 al (bO b7).2.2).trans b7;have QO:=aA qo;obtain ⟨p1,p2,p3,p4,r1,r2,r3,r4,rfl,rfl,rfl,rfl,_⟩:=qo.opens;have nq:=QO.out.ne (b:=X+1) bw;have nu:Cx (X+1) (.slice a1 x0.ch.cells c1) (.slice a2 x0.ch.words c2) (.slice a3 x0.hands c3) (.slice a4 x0.deals c4):=⟨fun e=>fe S9.out.u.1 S9.out.zv cB _ e rfl,fun e=>fe S9.out.u.2.1 S9.out.zv cB _ e rfl,fun e=>fe S9.out.u.2.2.1 S9.out.zv cB _ e rfl,fun e=>fe S9.out.u.2.2.2 S9.out.zv cB _ e rfl⟩
       have nl:(Value.slice (some ⟨g8,0,none⟩) (a0.length+1) q8).ownBlock≠some (X.heap.size+1):=fun e=>fe S9.out.l S9.out.zv cB _ e rfl
       have QL:=QO.out.lo (lo':=w+1+1) tO;have G:=S9.out.z0;have F:=S9.out.z1;have M:=S9.out.zu;have I:=S9.out.zv;obtain ⟨V,U,N⟩:=bO G;obtain ⟨K,J,H⟩:=bO F;obtain ⟨ac,a7,ab⟩:=bO M;obtain ⟨a5,Y,R⟩:=bO I;obtain ⟨cb,ba,c8⟩:=bO d9;have dw:=S9.out.u;have az:=S9.out.l;have ay:=S9.out.di;have ci:=S9.out.gr;go_wp2;go_roundw
       case rel =>
        refine ⟨j - 1,a0 ++ [⟨kd,who,kk,ce⟩],.slice p1 y9.ch.cells r1,.slice p2 y9.ch.words r2,.slice p3 y9.hands r3,.slice p4 y9.deals r4,by go_num,by omega,by simp;omega,L9,?_,by simp [go_sem, *],d6⟩;rw [← an];clear an;exact ⟨by (repeat (first|with_reducible assumption|with_reducible refine dG.alloc ?_ _|with_reducible refine dG.drew ?_|((with_reducible refine dG.store ?_ ?_ _);rotate_left;(focus (first|exact nq|exact nu))))),by (repeat (first|with_reducible assumption|with_reducible refine dG.alloc ?_ _|with_reducible refine dG.drew ?_|((with_reducible refine dG.store ?_ ?_ _);rotate_left;(focus (first|exact nq|exact nu))))),by (repeat (first|with_reducible exact az|((with_reducible refine aV ?_ ?_ _);rotate_left;(focus exact nl)))),(Fh tO _ _ _ _ _ _ _ _ _).trans M,by simp [go_sem, *],(Fh tO _ _ _ _ _ _ _ _ _).trans G,(Fh tO _ _ _ _ _ _ _ _ _).trans F,by (repeat (with_reducible first|exact ay|((with_reducible refine DI.setCell ?_ ?_ ?_);rotate_left;(focus (simp;omega));(focus (simp;omega)))|refine DI.alloc ?_|refine DI.drew ?_)),by exact lY⟩
       case measure=>simp [intOf];omega
end Go.Proofs.YtffhjmepfojhnaaGreat
