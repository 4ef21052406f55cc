/-
  The program's touch of parking, every case, on hands and channels that are kept whole; the lists are the call's own.
-/
import Derived.Test.YtffhjmepfojhnaaGreatT04
import Derived.Test.YtffhjmepfojhnaaGreatT17
import Derived.Test.YtffhjmepfojhnaaGreatT26
import Derived.Test.YtffhjmepfojhnaaGreatT05
import Derived.Deep.DeepCutAuto
import Derived.BigRegion
import Derived.Deep.RegionHeld3
import Derived.WalkLawsBesides
import Derived.Recover
import Derived.Laws.EntriesVeiled
import Derived.Test.YtffhjmepfojhnaaGreatT29
import Derived.Test.YtffhjmepfojhnaaGreatT27
set_option maxRecDepth 100000
set_option maxHeartbeats 8000000
set_option linter.unusedSimpArgs false
set_option linter.unusedVariables false
namespace Go.Proofs.YtffhjmepfojhnaaGreat
open _root_.Go.Proofs.Tryz
section
open Go.RowKit
attribute [local simp] dz
attribute [local go_sem ↓] dA fU dO gW dP gY dW fE bK eO
theorem H8 (c:Ch) (h:Ha) (v1 v2:Value) (lo:Nat) (w:World) (h1:aF w lo v1 c.cells) (h2:aI w lo v2 c.words) (hc:aN c=true) (F:jA c h.mine=-1) :
  Calls prog 275 #[.agg (aH c v1 v2),.agg (aB h)] w fun e L=>∃ T s,e=.panicked [{ v:=.iface T s,recovered:=false }]∧Below w w L:=by
 have K:=aA fun W a b=>Jz c h v1 v2 lo W a b hc F
 clear F hc;obtain ⟨O,X,R,Y,rfl,rfl,I,J,U,V⟩:=BJ h1 h2;clear h1 h2;have G:=I.out;have H:=J.out;go_enter func275,ntmps275;go_wp2_with fail;refine aK w zB fun M=>?_
 refine (K.out _ (zO G G) (zO H H)).mono ?_;rintro _ Z ⟨T,s,rfl,N⟩;go_wp2;exact ⟨rfl,T,s,rfl,bT M N⟩
theorem EO (c:Ch) (h:Ha) (v1 v2:Value) (lo:Nat) (w:World) (h1:aF w lo v1 c.cells) (h2:aI w lo v2 c.words) (hc:aN c=true) (x:Int) (hx:jA c h.mine=x) (hp:¬ x<0) (hq:(h.pos == 23)=true) :
  ed 275 c h v1 v2 lo w ((c,mY h x,x != 0)):=by
 have OW:=aA fun W a b=>oo c h v1 v2 lo W a b hc x hx hp
 clear hx hp hc;have U:=aA fun W=>MF h x W
 obtain ⟨y,T⟩:∃ y,mY h x=y:=⟨_,rfl⟩;rw [T] at U;rw [T];clear T;obtain ⟨V,q1,X,q2,rfl,rfl,O1,O2,b1,b2⟩:=BJ h1 h2;clear h1 h2;have O:=O1.out;have R:=O2.out;go_enter func275,ntmps275;go_wp2_with fail;refine aK w zB fun K=>?_;refine (OW.out _ (zO O O) (zO R R)).mono ?_;rintro _ w1 ⟨rfl,I⟩;obtain ⟨L,M,J⟩:=gZ K I (b:=w);(try simp at M);(try simp [go_sem] at J);replace Y:=fP J;clear J;have G:=L;clear I K
 have p1:=own_below O G;have p2:=own_below R G;obtain ⟨k0,k1,k2,k3⟩:=pz (a:=w) (b:=w1);go_wp2_with fail
 go_region_held3 (fun w'=>hp w' w=some (.cells (aH c (.slice V c.cells q1) (.slice X c.words q2)) 31)∧hp w' (w+1)=some (.cells (aB h) 49))
  (first|(simp [*,go_sem]))
  (first|((go_at_call 277;refine aK w zB fun K=>?_;refine aK w1 zB fun Z=>?_;refine (U.out _).mono ?_;rintro _ w2 ⟨rfl,F⟩;obtain ⟨a0,N,J⟩:=gZ K F (b:=w);(try simp at N);(first|simp [go_sem,Y,k0,k1,k2,k3] at J|simp [go_sem] at J|skip);replace Y:=fP J;clear J;have H:=bT Z F;clear F K Z);have r1:=own_below p1 H;have r2:=own_below p2 H))
 go_wp2;refine rE results275 rfl (bN c (.slice V c.cells q1) (.slice X c.words q2) tZ) rfl (aQ y tZ) ⟨⟨_,_,rfl,?_,?_,aP _ _,aP _ _⟩,gy zB⟩
 ·exact zO r1 O
 ·exact zO r2 R
theorem Cn (c:Ch) (h:Ha) (v1 v2:Value) (lo:Nat) (w:World) (h1:aF w lo v1 c.cells) (h2:aI w lo v2 c.words) (hc:aN c=true) (x:Int) (hx:jA c h.mine=x) (hp:¬ x<0) (hq:(h.pos == 24)=true) (hk:(h.code != 2)=true) :
  Calls prog 275 #[.agg (aH c v1 v2),.agg (aB h)] w fun e W'=>∃ T s,e=.panicked [{ v:=.iface T s,recovered:=false }]∧Below w w W':=by
 have OW:=aA fun W a b=>oo c h v1 v2 lo W a b hc x hx hp
 clear hx hp hc;have FE:=aA fun W a b=>J3 c h v1 v2 lo W a b hk
 clear hk;have a0:(h.pos == 23)=false:=by simp at hq ⊢;omega
 obtain ⟨J,M,L,N,rfl,rfl,O1,O2,b1,b2⟩:=BJ h1 h2;clear h1 h2;have Y:=O1.out;have Z:=O2.out;go_enter func275,ntmps275;go_wp2_with fail;refine aK w zB fun bb=>?_;refine (OW.out _ (zO Y Y) (zO Z Z)).mono ?_;rintro _ w1 ⟨rfl,H⟩;obtain ⟨O,V,zz⟩:=gZ bb H (b:=w);(try simp at V);(try simp [go_sem] at zz);replace bX:=fP zz;clear zz;have G:=O;clear H bb
 have p1:=own_below Y G;have p2:=own_below Z G;obtain ⟨k0,k1,k2,k3⟩:=pz (a:=w) (b:=w1);go_upto_region 6 with fail
 refine lh [[],[],[],[1,2],[0],[1,2,3],[]] [23,24,25,26,6] (fun l s I=>(Below w w I)∧(hp I w=some (.cells (aH c (.slice J c.cells M) (.slice L c.words N)) 31))∧(hp I (w+1)=some (.cells (aB h) 49))∧(l 4=false→hp I (w+1+1)=some (.cells (aH Ch.zero (.slice none 0 0) (.slice none 0 0)) 31))∧(aF I lo (.slice J c.cells M) c.cells)∧(aI I lo (.slice L c.words N) c.words)∧(l 0=true→s 23=.agg (aH c (.slice J c.cells M) (.slice L c.words N)))∧(l 1=true→s 24=.agg (aH c (.slice J c.cells M) (.slice L c.words N)))∧(l 2=true→s 25=.agg (aB h))∧(l 3=true→False)) (fun s=>⟨zB,by simp [go_sem, *],by simp [go_sem, *],fun _=>by simp [go_sem, *],wM p1,wM p2,nB,nB,nB,nB⟩) ?_ ?_
 refine ⟨?_,?_,?_,?_,?_,?_,?_,trivial⟩;iterate 7 (intro l s I hl X hn F K R;rotate_left)
 ·intro l s w8 U F
  exact ((jD F).2 (U 3 rfl)).elim
 ·have zc:=F.out.2.1
  go_simp;refine R.out (upd s 23 (.agg (aH c (.slice J c.cells M) (.slice L c.words N)))) _ _ gM (kC (kB (kX (fun _=>rfl) id)) F.out)
 ·have zc:=F.out.2.1
  go_simp;refine R.out (upd s 24 (.agg (aH c (.slice J c.cells M) (.slice L c.words N)))) _ _ gM (kC (kB (kA (kX (fun _=>rfl) id))) F.out)
 ·have zh:=F.out.2.2.1
  go_simp;refine R.out (upd s 25 (.agg (aB h))) _ _ gM (kD (kX (fun _=>rfl) id) F.out)
 ·have e1:=((jC F.out).2.2.2.1 (X 1 rfl))
  have e2:=((jD F.out).1 (X 2 rfl));go_simp
  go_at_call 278
  refine (FE.out _ F.out.2.2.2.2.1 (jC F.out).2.1).mono ?_;rintro _ wy ⟨T,sv,rfl,hE⟩;exact ⟨rfl,T,sv,rfl,bT F.out.1 hE⟩
 ·have e0:=((jC F.out).2.2.1 (X 0 rfl))
  have hB:=F.out.1;have zr:=F.out.2.2.2.1 hl;go_simp;refine R.out (s) _ _ yj (kX (Ra hB tO) (kX ((dR tO).trans F.out.2.1) (kX ((dR tO).trans F.out.2.2.1) (kX (fun h9=>absurd h9 (by rw [show upd l 4 true 4=true from rfl];decide)) (kX (iD F.out.2.2.2.2.1 zr cB) (kX (iD (jC F.out).2.1 zr cB) id))))) F.out)
 ·exact ((jD F).2 (X 3 rfl)).elim
 ·go_simp
  refine R.out (upd s 6 (.bool true)) _ _ gM (F.out)
theorem EP (c:Ch) (h:Ha) (v1 v2:Value) (lo:Nat) (w:World) (h1:aF w lo v1 c.cells) (h2:aI w lo v2 c.words) (M:0≤h.cell) (N:h.cell<c.cells.length) (hc:aN c=true) (x:Int) (hx:jA c h.mine=x) (hp:¬ x<0) (hq:(h.pos == 24)=true) (hk:(h.code != 2)=false) :
  ed 275 c h v1 v2 lo w ((c,aM 2 (cellAt c h.cell).e,true)):=by
 have OW:=aA fun W a b=>oo c h v1 v2 lo W a b hc x hx hp
 clear hx hp hc;have Z:=aA fun W a b=>GJ c h v1 v2 lo W a b M N hk
 clear hk M N;have a3:(h.pos == 23)=false:=by simp at hq ⊢;omega
 obtain ⟨y,V⟩:∃ y,aM 2 (cellAt c h.cell).e=y:=⟨_,rfl⟩;rw [V] at Z;rw [V];clear V;obtain ⟨a1,q1,a2,q2,rfl,rfl,O1,O2,b1,b2⟩:=BJ h1 h2;clear h1 h2;have T:=O1.out;have U:=O2.out;go_enter func275,ntmps275;go_wp2_with fail;refine aK w zB fun K=>?_;refine (OW.out _ (zO T T) (zO U U)).mono ?_;rintro _ w1 ⟨rfl,I⟩;obtain ⟨L,O,J⟩:=gZ K I (b:=w);(try simp at O);(try simp [go_sem] at J);replace bX:=fP J;clear J;have G:=L;clear I K
 have X:=own_below T G;have Y:=own_below U G;obtain ⟨k0,k1,k2,k3⟩:=pz (a:=w) (b:=w1);go_wp2_with fail
 go_region_held3 (fun w'=>hp w' w=some (.cells (aH c (.slice a1 c.cells q1) (.slice a2 c.words q2)) 31)∧hp w' (w+1)=some (.cells (aB h) 49))
  (first|(simp [*,go_sem]))
  (first|((go_at_call 278;refine aK w zB fun K=>?_;refine aK w1 zB fun bk=>?_;refine (Z.out _ (zO X X) (zO Y Y)).mono ?_;rintro _ w2 ⟨rfl,F⟩;obtain ⟨a0,R,J⟩:=gZ K F (b:=w);(try simp at R);(first|simp [go_sem,bX,k0,k1,k2,k3] at J|simp [go_sem] at J|skip);replace bX:=fP J;clear J;have H:=bT bk F;clear F K bk);have r1:=own_below X H;have r2:=own_below Y H))
 go_wp2;refine rE results275 rfl (bN c (.slice a1 c.cells q1) (.slice a2 c.words q2) tZ) rfl (aQ y tZ) ⟨⟨_,_,rfl,?_,?_,aP _ _,aP _ _⟩,gy zB⟩
 ·exact zO r1 T
 ·exact zO r2 U
theorem H9 (c:Ch) (h:Ha) (v1 v2:Value) (lo:Nat) (w:World) (h1:aF w lo v1 c.cells) (h2:aI w lo v2 c.words) (hc:aN c=true) (x:Int) (N:jA c h.mine=x) (hp:¬ x<0) (hq:(h.pos == 23)=false) (X:(h.pos == 24)=false) (Y:(h.pos == 25)=false) :
  Calls prog 275 #[.agg (aH c v1 v2),.agg (aB h)] w fun e V=>∃ T s,e=.panicked [{ v:=.iface T s,recovered:=false }]∧Below w w V:=by
 have U:=aA fun W a b=>oo c h v1 v2 lo W a b hc x N hp
 clear N hp hc;obtain ⟨a1,q1,a2,q2,rfl,rfl,O,R,b1,b2⟩:=BJ h1 h2;clear h1 h2;have J:=O.out;have K:=R.out;go_enter func275,ntmps275;go_wp2_with fail;refine aK w zB fun M=>?_;refine (U.out _ (zO J J) (zO K K)).mono ?_;rintro _ Z ⟨rfl,G⟩;obtain ⟨H,I,L⟩:=gZ M G (b:=w);(try simp at I);(try simp [go_sem] at L);replace bX:=fP L;clear L;have F:=H;clear G M
 have p1:=own_below J F;have p2:=own_below K F;obtain ⟨k0,k1,k2,k3⟩:=pz (a:=w) (b:=Z);go_wp2;exact ⟨rfl,_,_,rfl,zB⟩
theorem ER (c:Ch) (h:Ha) (v1 v2:Value) (lo:Nat) (w:World) (h1:aF w lo v1 c.cells) (h2:aI w lo v2 c.words) (ah:0≤h.cell) (ai:h.cell<c.cells.length) (hc:aN c=true) (x:Int) (hx:jA c h.mine=x) (hp:¬ x<0) (hq:(h.pos == 25)=true) :
  ed 275 c h v1 v2 lo w ((bZ c h.cell (vE h),aM 3 0,true)):=by
 have OW:=aA fun W a b=>oo c h v1 v2 lo W a b hc x hx hp
 clear hx hp hc;obtain ⟨v,hv⟩:∃ v,vE h=v:=⟨_,rfl⟩;have GO:=aA fun W=>J2 h.code h.elem W
 rw [show (if h.code == 1 then (9:Int) else 10)=v from hv] at GO;rw [hv];clear hv;obtain ⟨i,a9⟩:∃ i:Nat,h.cell=(i:Int):=⟨h.cell.toNat,by omega⟩;have hi:i<c.cells.length:=tO;have ao:(0:Int)≤(i:Int):=tO;have ap:(i:Int)<(c.cells.length:Int):=tO;have ak:=h1.ne h2;obtain ⟨a2,q2,rfl,_⟩:=h2.seg;obtain ⟨g,q1,rfl,am,ac,a0,aj⟩:=h1.open1 hi;have O1:=aA h1;have O2:=aA h2;have au:g<w.heap.size+1:=tO;have av:g<w.heap.size+1+1:=tO
 have aw:g<w.heap.size+1+1+1:=tO;have b1:g≠w.heap.size:=tO;have b2:g≠w.heap.size+1:=tO;have b3:g≠w.heap.size+1+1:=tO;have b4:g≠w.heap.size+1+1+1:=tO;have ax:w.heap.size≠g:=tO;have ay:w.heap.size+1≠g:=tO;have az:w.heap.size+1+1≠g:=tO;have b0:w.heap.size+1+1+1≠g:=tO;have hx:Hid (cellAt c h.cell=c.cells.getD i ⟨0,0,0⟩):=by simp [cellAt,Hid,a9]
 have c0:=a0 0 tO;have c1:=a0 1 tO;have c2:=a0 2 tO;simp only [C3.val,Nat.add_zero] at c0 c1 c2;have aq:(h.pos == 23)=false:=by simp at hq ⊢;omega
 have ar:(h.pos == 24)=false:=by simp at hq ⊢;omega
 rw [show bZ c h.cell v=bZ c i v by rw [a9]]
 have e1:=lL c i v;have P1:=fun W (o:aF W lo (.slice (some ⟨g,0,none⟩) c.cells q1) c.cells)=>aF.setS o hi v
 rw [← e1] at P1;clear hx a0 h1 h2 e1;generalize c.cells.getD i ⟨0,0,0⟩=x0 at *;have o1:=O1.out;have o2:=O2.out;have ag:=aA a9;clear a9 ah ai;go_enter func275,ntmps275;go_wp2_with fail;refine aK w zB fun bb=>?_;refine (OW.out _ (zO o1 o1) (zO o2 o2)).mono ?_;rintro _ w1 ⟨rfl,a6⟩;have a5:Below w w w1:=bT bb a6;have ad:=a6.size;(try simp at ad);have T:=q4 a6 (b:=w);(try simp [go_sem] at T);(try clear F N M I);(try clear G Y U L);(try clear H a3 a1 X);(try clear O a8 a7 a4);obtain ⟨F,G,H,O⟩:=T;obtain ⟨N,M,I⟩:=bO F;obtain ⟨Y,U,L⟩:=bO G;obtain ⟨a3,a1,X⟩:=bO H;obtain ⟨a8,a7,a4⟩:=bO O;have aa:Below w w w1:=a5;clear a6 bb
 have p1:=own_below o1 aa;have p2:=own_below o2 aa;obtain ⟨k0,k1,k2,k3⟩:=pz (a:=w) (b:=w1);go_upto_region 8 with fail
 refine lh [[],[0],[],[2],[],[4],[4,5],[0,1,2,3],[0,1,2,3,7],qB [8]] [29,30,31,32,33,34,35,36,37] (fun l s wx=>(l 9=false→Below w1 w1 wx)∧(l 0=true→s 29=.pointer (some ⟨w,4,none⟩))∧(l 1=true→s 30=.slice (some ⟨g,0,none⟩) c.cells q1)∧(l 2=true→s 31=.pointer (some ⟨w+1,3,none⟩))∧(l 3=true→s 32=.int .i64 i)∧(l 4=true→s 33=.pointer (some ⟨w+1,1,none⟩))∧(l 5=true→s 34=.agg #[h.code,h.elem])∧(l 6=true→s 35=.int .i64 v)∧(l 7=true→s 36=.pointer (some ⟨g,i*3,none⟩))∧(l 8=true→s 37=.pointer (some ⟨g,i*3,none⟩))∧(l 9=true→Gr g w1 wx∧aF wx lo (.slice (some ⟨g,0,none⟩) c.cells q1) (bZ c i v).cells∧aI wx lo (.slice a2 c.words q2) c.words)) (fun s=>⟨fun _=>(Below.refl _ _).drew,nB,nB,nB,nB,nB,nB,nB,nB,nB,nB⟩) ?_ ?_
 refine ⟨?_,?_,?_,?_,?_,?_,?_,?_,?_,?_,trivial⟩;iterate 10 (intro l s wx hl hd hn J K hK;rotate_left)
 ·intro l s w5 ab J
  obtain ⟨V,r1,r2⟩:=((jD J).2.2 (ab 9 rfl));clear J ab;have b5:some w.heap.size≠some g:=by simp;omega
  have b6:some (w.heap.size+1)≠some g:=by simp;omega
  have b7:some (w.heap.size+1+1)≠some g:=by simp;omega
  have b8:some (w.heap.size+1+1+1)≠some g:=by simp;omega
  have ae:=V.size;(try (simp at ae));have T:=And.intro (bM V (b:=w+1+1+1) tS dM) <| And.intro (bM V (b:=w+1+1) tS dM) <| And.intro (bM V (b:=w+1) tS dM) <| bM V (b:=w) tS dM;(first|simp [go_sem,F,G,H,O,a4,X,L,I,k0,k1,k2,k3] at T|simp [go_sem] at T|skip);(try clear F N M I);(try clear G Y U L);(try clear H a3 a1 X);(try clear O a8 a7 a4);obtain ⟨F,G,H,O⟩:=T;obtain ⟨N,M,I⟩:=bO F;obtain ⟨Y,U,L⟩:=bO G;obtain ⟨a3,a1,X⟩:=bO H;obtain ⟨a8,a7,a4⟩:=bO O
  have an:Gr g w w5:=gT (zf a5) V;clear V;go_wp2_with fail
  go_region_held3 (fun w'=>hp w' w=some (.cells (aH c (.slice (some ⟨g,0,none⟩) c.cells q1) (.slice a2 c.words q2)) 31)∧hp w' (w+1)=some (.cells (aB h) 49))
   (first|(simp [*,go_sem]))
   (first|(go_at_call 48;refine (lv _ _ _).mono ?_;rintro _ w6 ⟨rfl,R⟩;have al:Gr g w w6:=gT zG (zf R);have af:=R.size;(try (simp at af));have T:=hQ R (b:=w);(first|(simp [go_sem,O,a4] at T)|(simp [go_sem] at T));(try clear a8 a7);(try clear O);have O:=T;clear T;(try clear a4);obtain ⟨a8,a7,a4⟩:=bO O;have T:=hQ R (b:=w+1);(first|(simp [go_sem,H,X] at T)|(simp [go_sem] at T));(try clear a3 a1);(try clear H);have H:=T;clear T;(try clear X);obtain ⟨a3,a1,X⟩:=bO H;have T:=hQ R (b:=w+1+1);(first|(simp [go_sem,G,L] at T)|(simp [go_sem] at T));(try clear Y U);(try clear G);have G:=T;clear T;(try clear L);obtain ⟨Y,U,L⟩:=bO G;have T:=hQ R (b:=w+1+1+1);(first|(simp [go_sem,F,I] at T)|(simp [go_sem] at T));(try clear N M);(try clear F);have F:=T;clear T;(try clear I);obtain ⟨N,M,I⟩:=bO F;have p1:aF w6 lo (.slice (some ⟨g,0,none⟩) c.cells q1) (bZ c i v).cells:=own_below (zO r1 o1) R;have p2:aI w6 lo (.slice a2 c.words q2) c.words:=own_below (zO r2 o2) R))
  go_wp2;refine rE results275 rfl (bN (bZ c i v) (.slice (some ⟨g,0,none⟩) c.cells q1) (.slice a2 c.words q2) tZ) rfl (aQ (aM 3 0) tZ) ⟨⟨_,_,rfl,?_,?_,aP _ _,aP _ _⟩,rA (show w.grownBy _ (some g) from zG)⟩
  ·show aF _ lo (.slice (some ⟨g,0,none⟩) c.cells q1) (bZ c i v).cells
   exact zO p1 o1
  ·show aI _ lo (.slice a2 c.words q2) c.words
   exact zO p2 o2
 ·have Z:=J.out.1 (hn 9 rfl)
  go_simp;refine hK.out (upd s 29 (.pointer (some ⟨w,4,none⟩))) _ _ gM (kA (kX (fun _=>rfl) id) J.out)
 ·have e0:=(J.out.2.1 (hd 0 rfl))
  have Z:=J.out.1 (hn 9 rfl);have zc:=iC O Z;have zh:=iC H Z;have q:=(bO zc).1 4;go_simp;refine hK.out (upd s 30 (.slice (some ⟨g,0,none⟩) c.cells q1)) _ _ yj (kB (kX (fun _=>rfl) id) J.out)
 ·have Z:=J.out.1 (hn 9 rfl)
  go_simp;refine hK.out (upd s 31 (.pointer (some ⟨w+1,3,none⟩))) _ _ gM (kB (kA (kX (fun _=>rfl) id)) J.out)
 ·have e2:=(J.out.2.2.2.1 (hd 2 rfl))
  have Z:=J.out.1 (hn 9 rfl);have zc:=iC O Z;have zh:=iC H Z;have q:wx.cell? ⟨w+1,3,none⟩=some (.int .i64 i):=by rw [← ag.out];exact (bO zh).1 3
  go_simp;refine hK.out (upd s 32 (.int .i64 i)) _ _ wR (kC (kX (fun _=>rfl) id) J.out)
 ·have Z:=J.out.1 (hn 9 rfl)
  go_simp;refine hK.out (upd s 33 (.pointer (some ⟨w+1,1,none⟩))) _ _ gM (kC (kA (kX (fun _=>rfl) id)) J.out)
 ·have e4:=((jC J.out).2.1 (hd 4 rfl))
  have Z:=J.out.1 (hn 9 rfl);have zc:=iC O Z;have zh:=iC H Z;have qa:=(bO zh).1 1;have qb:=(bO zh).1 2;go_simp;refine hK.out (upd s 34 (.agg #[h.code,h.elem])) _ _ zJ (kC (kB (kX (fun _=>rfl) id)) J.out)
 ·have e5:=((jC J.out).2.2.1 (hd 5 rfl))
  have Z:=J.out.1 (hn 9 rfl);go_simp
  go_at_call 279
  refine (GO.out _).mono ?_;rintro _ wy ⟨rfl,hE⟩;refine hK.out (upd s 35 (.int .i64 v)) _ _ mK (kX (fun h9=>bT (J.out.1 h9) hE) (kC (kB (kX (fun _=>rfl) (kB (fun _=>nU (hn 9 rfl)))))) J.out)
 ·have e1:=(J.out.2.2.1 (hd 1 rfl))
  have e3:=(J.out.2.2.2.2.1 (hd 3 rfl));have Z:=J.out.1 (hn 9 rfl);go_simp;refine hK.out (upd s 36 (.pointer (some ⟨g,i*3,none⟩))) _ _ (by simp [aX,e1,e3] <;> rfl) (kD (kX (fun _=>rfl) id) J.out)
 ·have e7:=((jD J.out).1 (hd 7 rfl))
  have Z:=J.out.1 (hn 9 rfl);go_simp;refine hK.out (upd s 37 (.pointer (some ⟨g,i*3,none⟩))) _ _ wQ (kD (kA (kX (fun _=>rfl) id)) J.out)
 ·have e8:=((jD J.out).2.1 (hd 8 rfl))
  have e6:=((jC J.out).2.2.2.1 (hd 6 rfl));have Z:=J.out.1 hl;have y0:=((bT a5 Z).cell (p:=⟨g,i*3,none⟩) ac).trans c0;have yf:=fun o=>((bT a5 Z).frozen (p:=⟨g,o,none⟩) ac).trans (aj o)
  go_simp;refine hK.out (s) _ _ (by simp [aX,e8,e6] <;> rfl) (kX (fun h9=>absurd h9 (by rw [show upd l 9 true 9=true from rfl];decide)) (kD (kA (fun _=>fun _=>⟨gS (zf Z) (.inl rfl),P1 _ (own_below p1 Z),aV (own_below p2 Z) (ak g rfl) _⟩))) J.out)
theorem Kb {c:Ch} {v:Int} (F:jR c v=false):jA c v=-1:=by simp [jA,F]
theorem QB {c:Ch} {v:Int} (hc:aN c=true) (H:jR c v=true):¬ jA c v<0∧jA c v=dH c v:=by
 have F:jA c v=dH c v:=by simp [jA,hc,H]
 refine ⟨?_,F⟩;rw [F];simp only [aN,Bool.and_eq_true] at hc;have I:=List.all_eq_true.1 hc.2.2;obtain ⟨h1,h2⟩:=tT.1 H;have G:(v - 1).toNat<c.words.length:=tO;have:=dK.1 (I _ (List.getElem_mem G));have e:dH c v=c.words[(v - 1).toNat]:=by unfold dH;rw [List.getD_eq_getElem?_getD,List.getElem?_eq_getElem G];rfl
 rw [e];omega
theorem xX {c:Ch} {h:Ha}:pK (c,h,true)=done c h:=rfl
theorem Kc {h:Ha} (F:aU h=true) (hp:23≤h.pos):h.code=1∨h.code=2:=by
 simp only [aU,oG,Bool.and_eq_true,dK] at F;have G:¬ h.pos=0:=tO;simp [G] at F;have:=F.1.2;simp [eD] at this;omega
theorem Co (c:Ch) (h:Ha) (hc:aN c=true) (L:aU h=true) :
  (∃ x:St,bJ c h=pK x∧∀ (v1 v2:Value) (lo:Nat) (W:World),aF W lo v1 c.cells→aI W lo v2 c.words→lo≤W.heap.size→Calls prog 275 #[.agg (aH c v1 v2),.agg (aB h)] W fun r w'=>eB W w' lo v1 v2 x r) ∨
  (bJ c h=nothing∧∀ (v1 v2:Value) (lo:Nat) (W:World),aF W lo v1 c.cells→aI W lo v2 c.words→lo≤W.heap.size→Calls prog 275 #[.agg (aH c v1 v2),.agg (aB h)] W fun e W'=>∃ T s,e=.panicked [{ v:=.iface T s,recovered:=false }]∧Below W W W'):=by
 cases K:jR c h.mine with
 | false=>exact .inr ⟨by simp [bJ,K],fun v1 v2 lo W H I _=>H8 c h v1 v2 lo W H I hc (Kb K)⟩
 | true =>
  obtain ⟨G,Z⟩:=QB hc K;obtain ⟨N,a0⟩:=iW L;have O:h.cell<c.cells.length:=by have:=(mW hc).1;omega
  cases U:(h.pos == 23) with
  | true =>
   have hp:h.pos=23:=by simpa using U
   refine .inl ⟨(c,mY h (jA c h.mine),jA c h.mine != 0),?_,fun v1 v2 lo W H I _=>EO c h v1 v2 lo W H I hc _ rfl G U⟩;have hok:bC c h 23 25 0=true:=by simp [bC,hc,L,hp,dV]
   rw [Z];by_cases V:dH c h.mine=0
   ·simp [bJ,hok,K,hp,j5,V,mY,pK,hc,L]
   ·have h0':(dH c h.mine != 0)=true:=by simpa using V
    rw [h0',xX];simp only [bJ,hok,K,hp,j5,mY];simp [V];by_cases h2:dH c h.mine=2
    ·simp [h2]
    ·by_cases M:h.code=1 <;> simp [h2,M]
  | false =>
   have a1:¬ h.pos=23:=by simpa using U
   cases F:(h.pos == 24) with
   | true =>
    have hp:h.pos=24:=by simpa using F
    have hok:bC c h 23 25 0=true:=by simp [bC,hc,L,hp,dV]
    cases M:(h.code != 2) with
    | true =>
     refine .inr ⟨?_,fun v1 v2 lo W H I _=>Cn c h v1 v2 lo W H I hc _ rfl G F M⟩;have R:¬ h.code=2:=by simpa using M
     have X:h.code=1:=by have:=Kc L tO;omega
     simp [bJ,hok,K,hp,X]
    | false =>
     refine .inl ⟨(c,aM 2 (cellAt c h.cell).e,true),?_,fun v1 v2 lo W H I _=>EP c h v1 v2 lo W H I N O hc _ rfl G F M⟩;have R:h.code=2:=by simpa using M
     rw [xX];simp [bJ,hok,K,hp,R]
   | false =>
    have a2:¬ h.pos=24:=by simpa using F
    cases J:(h.pos == 25) with
    | true =>
     have hp:h.pos=25:=by simpa using J
     have hok:bC c h 23 25 0=true:=by simp [bC,hc,L,hp,dV]
     refine .inl ⟨(bZ c h.cell (vE h),aM 3 0,true),?_,fun v1 v2 lo W H I _=>ER c h v1 v2 lo W H I N O hc _ rfl G J⟩;rw [xX];simp [bJ,hok,K,hp]
    | false =>
     have a3:¬ h.pos=25:=by simpa using J
     refine .inr ⟨?_,fun v1 v2 lo W H I _=>H9 c h v1 v2 lo W H I hc _ rfl G U F J⟩;have Y:bC c h 23 25 0=false:=by
      have:dV h.pos 23 25=false:=by simp [dV];omega
      simp [bC,this]
     simp [bJ,Y]
theorem QC (w:World):Calls prog 233 #[] w fun r w'=>r=.returned (.tuple #[.agg (aH Ch.zero (.slice none 0 0) (.slice none 0 0)),.agg (aB Ha.zero),.bool false])∧Below w w w':=by
 go_enter func233,ntmps233
 go_wp2;refine rE results233 rfl (bN Ch.zero (.slice none 0 0) (.slice none 0 0) qz) rfl (aQ Ha.zero qz) ⟨rfl,zB⟩
theorem Ld {P:Program} {L:Func} {tmps:Array Value} {w:World} {p q u:Nat} {T S U:TypeId} {a J K:Addr} {x y z:Value} (h:L.results=#[.cell p T,.cell q S,.cell u U]) (hp:tmps.getD p undef=.pointer (some a)) (M:(loadVar T a).run P w=.ok x w) (H:tmps.getD q undef=.pointer (some J)) (F:(loadVar S J).run P w=.ok y w) (I:tmps.getD u undef=.pointer (some K)) (G:(loadVar U K).run P w=.ok z w):(results L tmps).run P w=.ok (.tuple #[x,y,z]) w:=by
 simp only [results,h];simp [Sem.run_bind,Result.andThen,asAddr] at *;simp [hp,M,H,F,I,G]
theorem QD {w:World} {b:Nat} {v:Bool} (h:hp w b=some (.cells #[.bool v] 4)):(loadVar 4 ⟨b,0,none⟩).run prog w=.ok (.bool v) w:=by
 have c:=(bO h).1 0;simp at c;simp [go_sem,c]
theorem TJ {lo:Nat} {w W F:World} (h:Below lo w W) (k:Below lo W F):Below lo w F:=⟨k.os.trans h.os,k.tape.trans h.tape,k.output.trans h.output,Nat.le_trans h.size k.size,fun i G=>(k.block i G).trans (h.block i G)⟩
theorem HY {w:World} {lo b i k m:Nat} {e G:TypeId} {u v:Value} {H:List Value} {y:Array Value} (h:w.ownsRow lo e k u m H) (J:hp w b=some (.cells y G)) (F:e≠G):(w.setCell ⟨b,i,none⟩ v).ownsRow lo e k u m H:=h.kept (gS (gR _ _) (.inl rfl)) (.inr fun I=>fe h J F b I rfl)
theorem QE {lo b i:Nat} {w W:World} {v:Value} (h:Below lo w W) (G:lo≤b):Below lo w (W.setCell ⟨b,i,none⟩ v):=⟨h.os,h.tape,h.output,by simpa [World.setCell] using h.size,fun k F=>(Below.heap_setCell _ _ _ k dQ).trans (h.block k F)⟩
theorem NC (G H J:Nat) (T:TypeId) (s:Value) (F:List PanicEntry) (w:World) (Y:Array Value) (Z:Array Value) (x6:Value) (U:hp w G=some (.cells Y 31)) (s4:Y.size=6) (M:hp w H=some (.cells Z 49)) (s5:Z.size=14) (K:hp w J=some (.cells #[x6] 4)) :
  CallsD prog 274 #[.pointer (some ⟨G,0,none⟩),.pointer (some ⟨H,0,none⟩),.pointer (some ⟨J,0,none⟩)] (.panicking ({ v:=.iface T s,recovered:=false } :: F)) w fun e u' w' =>
   e=.returned (.tuple #[])∧u'=.panicking ({ v:=.iface T s,recovered:=true } :: F)∧hp w' G=some (.cells (aH Ch.zero (.slice none 0 0) (.slice none 0 0)) 31)∧hp w' H=some (.cells (aB Ha.zero) 49)∧hp w' J=some (.cells #[.bool false] 4)∧(∀ lo,lo≤G→lo≤H→lo≤J→lo≤w.heap.size→Below lo w w'):=by
 refine callsD_of_wpS func274 rfl fun c₀ cs hu=>?_
 apply wpS_seq;apply wpS_region;simp [wpOpsS,go_sem,recoverD,hu,ntmps274,Exit.thenS];refine wpS_cond (t:=true) (by simp [Act.eval,Array.replicate]) ?_;simp only [if_true];refine wpS_of_wp ?_;simp only [Array.replicate_succ,Array.replicate_zero,List.push_toArray,List.append_toArray,List.nil_append,List.cons_append,List.setIfInBounds_toArray,List.set_cons_zero,List.set_cons_succ];have a0:G≠H:=by rintro rfl;rw [U] at M;simp at M
 have N:G≠J:=by rintro rfl;rw [U] at K;simp at K
 have O:H≠J:=by rintro rfl;rw [M] at K;simp at K
 go_wp2_with (go_at_call 233;refine (QC _).mono ?_;rintro _ R ⟨rfl,I⟩;have VV:=iC U I;have Xd:=iC M I;have Xe:=iC K I;have k4:okO 6 (hp R G)=true:=(by rw [VV];simp [okO,s4]);have L:=rM (ys:=aH Ch.zero (.slice none 0 0) (.slice none 0 0)) VV Xd cB;have k5:okO 14 (hp (dX R G (aH Ch.zero (.slice none 0 0) (.slice none 0 0))) H)=true:=(by rw [L];simp [okO,s5]);have q6:=rM (ys:=aH Ch.zero (.slice none 0 0) (.slice none 0 0)) VV Xe cB;have X:=rM (ys:=aB Ha.zero) L q6 cB;have r4:=rM (ys:=aB Ha.zero) L (o7 (ys:=aH Ch.zero (.slice none 0 0) (.slice none 0 0)) VV) cB;have r5:=o7 (ys:=aB Ha.zero) L;obtain ⟨c6,f6,V⟩:=bO X)
 refine ⟨rfl,_,rfl,_,results_none rfl _ _ _,rfl,rfl,(Below.heap_setCell _ _ _ G N).trans r4,(Below.heap_setCell _ _ _ H O).trans r5,by rw [qF,X];rfl,fun lo l4 l5 V l=>QE (Ra (Ra (show Below lo w R from ⟨I.os,I.tape,I.output,I.size,fun k hk=>I.block k (Nat.lt_of_lt_of_le hk l)⟩) l4) l5) V⟩
theorem Ke (F G H:Nat) (w:World) :
  CallsD prog 274 #[.pointer (some ⟨F,0,none⟩),.pointer (some ⟨G,0,none⟩),.pointer (some ⟨H,0,none⟩)] .returning w fun e J w'=>e=.returned (.tuple #[])∧J=.returning∧w'=w:=by
 refine callsD_of_wpS func274 rfl fun c₀ cs I=>?_
 apply wpS_seq;apply wpS_region;simp [wpOpsS,go_sem,recoverD,I,ntmps274,Exit.thenS];refine wpS_cond (t:=false) (by simp [Act.eval,Array.replicate]) ?_;simp only [Bool.false_eq_true,if_false];refine wpS_of_wp (wp_skip ?_);cases c₀
 simp_all [bodyPostS,results,results274]
theorem QF (c:Ch) (h:Ha) (a b:Option Addr) (p q:Nat) (w:World) (h1:gG w w a c.cells) (z1:a=none→p=0) (h2:gI w w b c.words) (N:b=none→q=0)
  (HB:∀ (W:World),gG W W a c.cells→(a=none→p=0)→gI W W b c.words→(b=none→q=0)→Calls prog 236 #[.func (.func 275) #[] #[],.agg (aH c (.slice a c.cells p) (.slice b c.words q)),.agg (aB h)] W fun e V=>∃ T s,e=.panicked [{ v:=.iface T s,recovered:=false }]∧Below W W V) :
  Calls prog 273 #[.agg (aH c (.slice a c.cells p) (.slice b c.words q)),.agg (aB h)] w fun r w'=>dU w w' nothing r:=by
 have Z:∀ (M:Fn) (first cap:Array Value) (w:World),(Instr.makeFunc M first cap).run prog w=.ok (.func M first cap) w:=fun _ _ _ _=>rfl
 have O:=aA h1;have R:=aA h2;have X:=aA z1;have Y:=aA N;have U:=aA HB;clear h1 h2 z1 N HB
 go_enter_defers func273,ntmps273
 go_wp2_with fail;refine aK w zB fun G=>?_
 refine (U.out _ (aT O G) X.out (aT R G) Y.out).mono ?_;rintro _ H ⟨T,s,rfl,F⟩;have I:Below w w H:=bT G F;have L:=F.size;simp at L;have z4:hp H (w+1+1)=some (.cells (aH Ch.zero (.slice none 0 0) (.slice none 0 0)) 31):=by rw [o9 F cK];simp [go_sem]
 have z5:hp H (w+1+1+1)=some (.cells (aB Ha.zero) 49):=by rw [o9 F cK];simp [go_sem]
 have z6:hp H (w+1+1+1+1)=some (.cells #[.bool false] 4):=by rw [o9 F cK];simp [go_sem]
 clear F G;go_wp2;refine leaves_cons (f:=274) (args:=#[.pointer (some ⟨w+1+1,0,none⟩),.pointer (some ⟨w+1+1+1,0,none⟩),.pointer (some ⟨w+1+1+1+1,0,none⟩)]) cK qz ?_;refine (NC _ _ _ T s [] _ _ _ _ z4 rfl z5 rfl z6).mono ?_;rintro e u' w2 ⟨rfl,rfl,y4,y5,y6,K⟩;have J:Below w w w2:=TJ I (K w tO tO tO tO);exact ⟨_,Ld results273 rfl (bN Ch.zero (.slice none 0 0) (.slice none 0 0) y4) rfl (aQ Ha.zero y5) rfl (QD y6),ru _ _ _ _ _,J⟩
theorem xY (x:St) (c:Ch) (h:Ha) (a b:Option Addr) (p q:Nat) (w:World) (h1:gG w w a c.cells) (z1:a=none→p=0) (h2:gI w w b c.words) (z2:b=none→q=0)
  (HB:∀ (W:World),gG W W a c.cells→(a=none→p=0)→gI W W b c.words→(b=none→q=0)→Calls prog 236 #[.func (.func 275) #[] #[],.agg (aH c (.slice a c.cells p) (.slice b c.words q)),.agg (aB h)] W fun e W'=>dU W W' x e) :
  Calls prog 273 #[.agg (aH c (.slice a c.cells p) (.slice b c.words q)),.agg (aB h)] w fun r w'=>dU w w' x r:=by
 have a1:∀ (Z:Fn) (first cap:Array Value) (w:World),(Instr.makeFunc Z first cap).run prog w=.ok (.func Z first cap) w:=fun _ _ _ _=>rfl
 have H1:=aA h1;have H2:=aA h2;have Z1:=aA z1;have Z2:=aA z2;have HH:=aA HB;clear h1 h2 z1 z2 HB
 go_enter_defers func273,ntmps273
 go_wp2_with fail;generalize F:World.alloc _ _=I
 have G:Below w w I:=by rw [← F];exact zB
 have a2:I=w.heap.size+1+1+1+1+1:=by rw [← F];simp
 have H:hp I (w+1+1)=some (.cells (aH Ch.zero (.slice none 0 0) (.slice none 0 0)) 31):=by rw [← F];simp [go_sem]
 have X:hp I (w+1+1+1)=some (.cells (aB Ha.zero) 49):=by rw [← F];simp [go_sem]
 have Y:hp I (w+1+1+1+1)=some (.cells #[.bool false] 4):=by rw [← F];simp [go_sem]
 clear F;refine (HH.out I ((H1.out.below G).more G.size) Z1.out ((H2.out.below G).more G.size) Z2.out).mono ?_;rintro _ N ⟨⟨y1,y2,rfl,L,M,F1,F2⟩,J⟩;replace H:=iC H J;replace X:=iC X J;replace Y:=iC Y J;have a0:Below w w N:=bT G J;have a3:=J.size;replace L:aF N w y1 x.1.cells:=aL L tO;replace M:aI N w y2 x.1.words:=aL M tO;clear J;obtain ⟨R,U,ea,_⟩:=L.seg;obtain ⟨T,V,eb,_⟩:=M.seg;subst ea eb;have k4:okO 6 (hp N (w+1+1))=true:=by rw [H];rfl
 have K:=rM (ys:=aH x.1 (.slice R x.1.cells U) (.slice T x.1.words V)) H X cB;have k5:okO 14 (hp (dX N (w+1+1) (aH x.1 (.slice R x.1.cells U) (.slice T x.1.words V))) (w+1+1+1))=true:=by rw [K];rfl
 have q6:=rM (ys:=aH x.1 (.slice R x.1.cells U) (.slice T x.1.words V)) H Y cB;have r4:=rM (ys:=aB x.2.1) K (o7 (ys:=aH x.1 (.slice R x.1.cells U) (.slice T x.1.words V)) H) cB;have r5:=o7 (ys:=aB x.2.1) K;have O:=rM (ys:=aB x.2.1) K q6 cB;obtain ⟨c6,f6,l6⟩:=bO O;go_wp2;refine leaves_cons (f:=274) (args:=#[.pointer (some ⟨w+1+1,0,none⟩),.pointer (some ⟨w+1+1+1,0,none⟩),.pointer (some ⟨w+1+1+1+1,0,none⟩)]) cK qz ?_
 refine (Ke _ _ _ _).mono ?_;rintro e u' w2 ⟨rfl,rfl,rfl⟩;exact ⟨_,Ld results273 rfl (bN x.1 _ _ ((Below.heap_setCell _ _ _ _ cK).trans r4)) rfl (aQ x.2.1 ((Below.heap_setCell _ _ _ _ cK).trans r5)) rfl (QD (by rw [qF,O];rfl)),⟨_,_,rfl,HY (iD (iD L H cB) K cB) O cB,HY (iD (iD M H cB) K cB) O cB,fun j e=>.inr (L.lt j e).1,fun j e=>.inr (M.lt j e).1⟩,zB⟩
theorem HZ (F:Nat) (c:Ch) (h:Ha) (a b:Option Addr) (p q:Nat) (w:World) (h1:gG w w a c.cells) (z1:a=none→p=0) (h2:gI w w b c.words) (z2:b=none→q=0) (hc:aN c=true) (hh:aU h=true) (eg:∀ args w,(callFunc F args).run prog w=.ok (.enter F args) w) (HF:∀ (v1 v2:Value) (lo:Nat) (W:World),aF W lo v1 c.cells→aI W lo v2 c.words→lo≤W.heap.size→Calls prog F #[.agg (aH c v1 v2),.agg (aB h)] W fun e W'=>∃ T s,e=.panicked [{ v:=.iface T s,recovered:=false }]∧Below W W W') :
  Calls prog 236 #[.func (.func F) #[] #[],.agg (aH c (.slice a c.cells p) (.slice b c.words q)),.agg (aB h)] w fun e w'=>∃ T s,e=.panicked [{ v:=.iface T s,recovered:=false }]∧Below w w w':=by
 obtain ⟨n1,n2⟩:=mW hc;have l1:c.cells.length≤maxLen:=by unfold maxLen;omega
 have l2:c.words.length≤maxLen:=by unfold maxLen;omega
 have m1:c.cells.length≤1099511627776:=tO;have m2:c.words.length≤1099511627776:=tO;have H1:=aA h1;have H2:=aA h2;have Z1:=aA z1;have Z2:=aA z2;clear h1 h2 z1 z2 n1 n2;have a9:=aA HF;clear HF;go_enter func236,ntmps236;go_wp2_with fail;refine aK w zB fun bb=>?_;refine (lC c a b p q _ (aT H1 bb) (aT H2 bb) l1 l2).mono ?_;rintro _ w1 ⟨rfl,Y⟩;have aa:Below w w w1:=bT bb Y;have a7:=Y.size;(try simp at a7);have zz:=q4 Y (b:=w);(try simp [go_sem] at zz);(try clear H O M J);(try clear I V U N);(try clear L a2 a1 a0);(try clear X a5 a4 a3);obtain ⟨H,I,L,X⟩:=zz;obtain ⟨O,M,J⟩:=bO H;obtain ⟨V,U,N⟩:=bO I;obtain ⟨a2,a1,a0⟩:=bO L;obtain ⟨a5,a4,a3⟩:=bO X;clear Y bb
 rw [hc];go_wp2_with fail;refine aK w zB fun bb=>?_;refine (jN h _).mono ?_;rintro _ w2 ⟨rfl,Z⟩;have R:Below w w w2:=bT bb Z;have a8:=Z.size;(try simp at a8);have zz:=q4 Z (b:=w);(first|simp [go_sem,H,I,L,X,a3,a0,N,J] at zz|simp [go_sem] at zz|skip);(try clear H O M J);(try clear I V U N);(try clear L a2 a1 a0);(try clear X a5 a4 a3);obtain ⟨H,I,L,X⟩:=zz;obtain ⟨O,M,J⟩:=bO H;obtain ⟨V,U,N⟩:=bO I;obtain ⟨a2,a1,a0⟩:=bO L;obtain ⟨a5,a4,a3⟩:=bO X;clear Z bb
 rw [hh];go_upto_region 3 with fail
 refine lh [[],[],[1],[],[0,1,2,3],[0,1,2,3,4],[0,1,2,3,4,5],[0,1,2,3,4,5],[0,1,2,3,4,5],[],[],[0,1,2,3,4,5,6,9],[0,1,2,3,4,5,7,10],[0,1,2,3,4,5,8]] [25,26,27,28,29,24,30,31,32,9,10,11] (fun l s wx=>(Below w2 w2 wx)∧(l 0=true→s 25=.func (.func F) #[] #[])∧(l 1=true→s 26=.agg (aH c (.slice a c.cells p) (.slice b c.words q)))∧(l 2=true→s 27=.agg (aH c (s 1001) (s 1002))∧aF wx w2 (s 1001) c.cells∧aI wx w2 (s 1002) c.words)∧(l 3=true→s 28=.agg (aB h))∧(l 4=true→False)) (fun s=>⟨(Below.refl _ _).drew,nB,nB,nB,nB,nB⟩) ?_ ?_
 refine ⟨?_,?_,?_,?_,?_,?_,?_,?_,?_,?_,?_,?_,?_,?_,trivial⟩;iterate 14 (intro l s wx hl hd hn G K hK;rotate_left)
 ·intro l s w8 a6 G
  exact ((jC G).2 (a6 4 rfl)).elim
 ·go_simp
  refine hK.out (upd s 25 (.func (.func F) #[] #[])) _ _ gM (kA (kX (fun _=>rfl) id) G.out)
 ·have z:=iC X G.out.1
  go_simp;refine hK.out (upd s 26 (.agg (aH c (.slice a c.cells p) (.slice b c.words q)))) _ _ gM (kB (kX (fun _=>rfl) id) G.out)
 ·have e1:=(G.out.2.2.1 (hd 1 rfl))
  go_simp
  go_at_call 101
  refine (yR c a b p q _ ((H1.out.below (bT R G.out.1)).more (Below.size (bT R G.out.1))) Z1.out ((H2.out.below (bT R G.out.1)).more (Below.size (bT R G.out.1))) Z2.out m1 m2).mono ?_;rintro _ wy ⟨⟨v1,v2,rfl,X1,X2⟩,hE⟩;refine hK.out (upd (upd (upd s 1001 (v1)) 1002 (v2)) 27 (.agg (aH c v1 v2))) _ _ pQ (kX (bT G.out.1 hE) (kB (kX (fun _=>⟨rfl,aL X1 (Below.size G.out.1),aL X2 (Below.size G.out.1)⟩) (kA (fun _=>nU (hn 4 rfl))))) G.out)
 ·have z:=iC L G.out.1
  go_simp;refine hK.out (upd s 28 (.agg (aB h))) _ _ gM (kC (kX (fun _=>rfl) id) G.out)
 ·have e0:=(G.out.2.1 (hd 0 rfl))
  have e3:=(G.out.2.2.2.2.1 (hd 3 rfl));obtain ⟨e2,o1,o2⟩:=(G.out.2.2.2.1 (hd 2 rfl));go_simp;refine (a9.out _ _ w2 _ o1 o2 (Below.size G.out.1)).mono ?_;rintro _ wy ⟨T,sv,rfl,hE⟩;exact ⟨rfl,T,sv,rfl,bT R (bT G.out.1 hE)⟩
 ·exact ((jC G).2 (hd 4 rfl)).elim
 ·exact ((jC G).2 (hd 4 rfl)).elim
 ·exact ((jC G).2 (hd 4 rfl)).elim
 ·exact ((jC G).2 (hd 4 rfl)).elim
 ·go_simp
  refine hK.out (upd s 9 (.pointer (some ⟨wx,0,none⟩))) _ _ gM (kX (bT G.out.1 (bL _ _)) (kB (kX (fun h=>(let ⟨e,X1,X2⟩:=(G.out.2.2.2.1 h);⟨e,own_below X1 (bL _ _),own_below X2 (bL _ _)⟩)) id)) G.out)
 ·go_simp
  refine hK.out (upd s 10 (.pointer (some ⟨wx,0,none⟩))) _ _ gM (kX (bT G.out.1 (bL _ _)) (kB (kX (fun h=>(let ⟨e,X1,X2⟩:=(G.out.2.2.2.1 h);⟨e,own_below X1 (bL _ _),own_below X2 (bL _ _)⟩)) id)) G.out)
 ·exact ((jC G).2 (hd 4 rfl)).elim
 ·exact ((jC G).2 (hd 4 rfl)).elim
 ·exact ((jC G).2 (hd 4 rfl)).elim
theorem Cq (c:Ch) (h:Ha) (a b:Option Addr) (p q:Nat) (w:World) (h1:gG w w a c.cells) (z1:a=none→p=0) (h2:gI w w b c.words) (K:b=none→q=0) (M:c.cells.length≤maxLen) (N:c.words.length≤maxLen) :
  Calls prog 273 #[.agg (aH c (.slice a c.cells p) (.slice b c.words q)),.agg (aB h)] w fun r w'=>dU w w' (bJ c h) r:=by
 cases hc:aN c with
 | false =>
  rw [show bJ c h=nothing by simp [bJ,bC,hc]]
  exact xY nothing c h a b p q w h1 z1 h2 K fun W F H G I=>uH _ c h a b p q W F H G I M N hc
 | true =>
  cases J:aU h with
  | false =>
   rw [show bJ c h=nothing by simp [bJ,bC,J]]
   exact xY nothing c h a b p q w h1 z1 h2 K fun W F H G I=>uI _ c h a b p q W F H G I M N hc J
  | true =>
   rcases Co c h hc J with ⟨x,e,L⟩|⟨e,L⟩
   ·rw [e]
    exact xY (pK x) c h a b p q w h1 z1 h2 K fun W F H G I=>uG _ x c h a b p q W F H G I hc J (fun args w=>by simp [go_sem]) L
   ·rw [e]
    exact QF c h a b p q w h1 z1 h2 K fun W F H G I=>(HZ _ c h a b p q W F H G I hc J (fun args w=>by simp [go_sem]) L)
end
section
theorem VK (k:Nat):∀ (i:Nat) (x:Wo),tu k i x=jq k i x:=by
 induction k with
 | zero=>exact fun _ _=>rfl
 | succ k ih =>
  intro i x;unfold tu jq;rw [mf,ih,ih]
theorem VL (n:Nat):∀ x:Wo,mQ n x=mg n x:=by
 induction n with
 | zero=>exact fun _=>rfl
 | succ n ih =>
  intro x;unfold mQ mg Q6 xA kG;rw [VK,ih]
theorem Q.has23 {c:Ch} {hs:List Ha} {g:Gh} {i:Nat} (q:Q c hs g) (F:i<hs.length) (p:(aD hs i).pos=23):jR c (aD hs i).mine=true:=by
 cases q.hand i F with
 | sW n hn k ce el p z m =>
  have w:=(q.word n hn).s ((q.way n hn).f_sW z).1;rw [m];unfold jR;rw [dK];exact ⟨w.1,w.2.1⟩
 | rW n hn k ce p z m =>
  have w:=(q.word n hn).r ((q.way n hn).f_rW z).1;rw [m];unfold jR;rw [dK];exact ⟨w.1,w.2.1⟩
 | _=>omega
theorem Live.hok {x:Wo} {g:Gh} {D E:List Nat} (L:Live x g D E) {i:Nat} (hi:i<x.hands.length):aU (aD x.hands i)=true:=by
 exact Ou
theorem Live.park {x:Wo} {g:Gh} {D E:List Nat} (L:Live x g D E) {i:Nat} (G:i<x.hands.length):lT x i=true↔((aD x.hands i).pos=23∧dH x.ch (aD x.hands i).mine=0):=by
 unfold lT;rw [mf];by_cases p:(aD x.hands i).pos=23
 ·have m:=L.h.q.has23 G p
  have hok:bC x.ch (aD x.hands i) 23 25 0=true:=by simp [bC,L.r.ch,L.hok G,p,dV]
  have e:fu x.ch (aD x.hands i)=j5 x.ch (aD x.hands i):=by
   unfold fu;rw [show dV (aD x.hands i).pos 1 8=false by simp [dV,p],show dV (aD x.hands i).pos 9 15=false by simp [dV,p],show dV (aD x.hands i).pos 16 22=false by simp [dV,p]]
   simp only [Bool.false_eq_true,if_false];unfold bJ;rw [hok,m];simp [p]
  rw [e];unfold j5;have H:=(iT.1 L.r.ch);have F:0<x.ch.cells.length:=by
   have:=L.r.ch;simp [aN,fH] at this;omega
  by_cases w:dH x.ch (aD x.hands i).mine=0
  ·simp [p,w,gV,F]
  ·simp only [p,w,BEq.rfl,Bool.true_and,and_false,iff_false,Bool.not_eq_true]
   rw [if_neg (by simpa using w)];split
   ·exact rO _ _
   ·split <;> exact rO _ _
 ·simp [p]
theorem yT (x:Wo):∀ n,iL x n=true↔∀ i,i<n→((aD x.hands i).pos=0∨lT x i=true)
 | 0=>by simp [iL]
 | n+1=>by
  have ih:=yT x n;unfold iL;rw [Bool.and_eq_true,ih,Bool.or_eq_true,mf,beq_iff_eq];constructor
  ·rintro ⟨a,b⟩ i F
   by_cases e:i=n
   ·subst e;exact b
   ·exact a i tO
  ·exact fun h=>⟨fun i F=>h i tO,h n tO⟩
theorem Live.quiet {x:Wo} {g:Gh} {D E:List Nat} (L:Live x g D E):quietIn x=true↔Still x.ch x.hands:=by
 unfold quietIn;rw [Bool.and_eq_true,yT];constructor
 ·rintro ⟨_,h⟩ i F
  exact (h i F).imp id fun k=>(L.park F).1 k
 ·exact fun h=>⟨(eZ x).2 L.r,fun i F=>(h i F).imp id fun k=>(L.park F).2 k⟩
theorem uM (x:Wo):∀ k v,v ∈ jf x k→∃ j:Nat,v=(j:Int)∧j<k∧lT x j=true
 | 0,v,h=>by cases h
 | k+1,v,h=>by
  unfold jf at h;split at h
  ·rename_i e
   rcases List.mem_append.1 h with h|h
   ·obtain ⟨j,e,G,F⟩:=uM x k v h
    exact ⟨j,e,by omega,F⟩
   ·simp at h
    exact ⟨k,h,by omega,e⟩
  ·obtain ⟨j,e,G,F⟩:=uM x k v h
   exact ⟨j,e,by omega,F⟩
theorem Live.parked {x:Wo} {g:Gh} {D E:List Nat} (L:Live x g D E) {v:Int} (h:v ∈ eX x):∃ j:Nat,v=(j:Int)∧j<x.hands.length∧(aD x.hands j).pos=23:=by
 unfold eX at h;split at h
 ·obtain ⟨j,e,F,G⟩:=uM x _ v h
  exact ⟨j,e,F,((L.park F).1 G).1⟩
 ·cases h
theorem ES {l:List Int} {p:Int→Bool} (h:(l.filter p).length≠0):∃ v,v ∈ l∧p v=true:=by
 obtain ⟨v,F⟩:=List.exists_mem_of_length_pos (Nat.pos_of_ne_zero h);exact ⟨v,(List.mem_filter.1 F).1,(List.mem_filter.1 F).2⟩
theorem Live.fairB {x:Wo} {g:Gh} {D E:List Nat} (L:Live x g D E) (K:Still x.ch x.hands):lV x=true:=by
 obtain ⟨M,N,O⟩:=L.fair K;have U:jU x (eX x)≠0→((keptIn x.ch).length:Int)=x.ch.cap:=fun h=>by
  obtain ⟨v,H,k⟩:=ES h;obtain ⟨j,rfl,F,p⟩:=L.parked H;rw [mf] at k;exact N j F p (by simpa using k)
 have V:lK x (eX x)≠0→(keptIn x.ch).length=0∧jU x (eX x)=0:=fun h=>by
  obtain ⟨v,H,k⟩:=ES h;obtain ⟨j,rfl,F,p⟩:=L.parked H;rw [mf] at k;obtain ⟨a,b⟩:=O j F p (by simpa using k);refine ⟨a,Decidable.byContradiction fun h2=>?_⟩;obtain ⟨v2,I,J⟩:=ES h2;obtain ⟨R,rfl,G,T⟩:=L.parked I;rw [mf] at J;exact b R G T yw
 unfold lV;rw [L.quiet.2 K];simp only [Bool.true_and,Bool.and_eq_true,decide_eq_true_eq,Bool.or_eq_true,beq_iff_eq];refine ⟨M,?_,?_⟩
 ·by_cases h:jU x (eX x)=0
  ·exact .inl h
  ·exact .inr (U h)
 ·by_cases h:lK x (eX x)=0
  ·exact .inl h
  ·exact .inr (V h)
theorem Live.od {x:Wo} {g:Gh} {D E:List Nat} (L:Live x g D E) {o:Od} (h:Ei x.hands o):∃ g' F G,Live (oJ x o.kd o.who o.k o.e).1 g' F G∧(oJ x o.kd o.who o.k o.e).1.hands.length=x.hands.length∧due (oJ x o.kd o.who o.k o.e).1≤due x+1∧(oJ x o.kd o.who o.k o.e).1.now≤x.now+1:=by
 obtain ⟨kd,who,k,e⟩:=o;obtain ⟨ht,_,h1⟩:=h;dsimp only at ht h1 ⊢;obtain ⟨i,rfl⟩:∃ i:Nat,who=(i:Int):=⟨who.toNat,by simp [gP,dV] at ht;omega⟩;have I:i<x.hands.length:=by simp [gP,dV] at ht;omega
 rcases h1 with rfl|rfl|rfl
 ·obtain ⟨g',F,G,H,a,b,c⟩:=L.ask I k e
  refine ⟨g',F,G,H,a,?_⟩;by_cases z:(asked x (i:Int) k e).2=0
  ·obtain ⟨p,q⟩:=b z
   exact ⟨by show due (asked x (i:Int) k e).1≤_;omega,by show (asked x (i:Int) k e).1.now≤_;omega⟩
  ·have:=c z
   exact ⟨by show due (asked x (i:Int) k e).1≤_;rw [this];omega,by show (asked x (i:Int) k e).1.now≤_;rw [this];omega⟩
 ·obtain ⟨g',F,G,H,a,b,c⟩:=L.step I
  refine ⟨g',F,G,H,b,by show due (bP x (i:Int)).1≤_;omega,?_⟩;show (bP x (i:Int)).1.now≤_;rcases c with ⟨_,_,c⟩|⟨_,c,_⟩
  ·omega
  ·rw [c];omega
 ·obtain ⟨g',F,G,H,a,b,c⟩:=L.stop I
  exact ⟨g',F,G,H,a,by show due (stopped x (i:Int)).1≤_;omega,by show (stopped x (i:Int)).1.now≤_;omega⟩
theorem Live.ods (ls:List Od):∀ {x:Wo} {g:Gh} {D E:List Nat} (_:Live x g D E) (_:∀ o,o ∈ ls→Ei x.hands o),∃ g' G I,Live (ow x ls) g' G I∧(ow x ls).hands.length=x.hands.length∧due (ow x ls)≤due x+ls.length∧(ow x ls).now≤x.now+(ls.length:Int):=by
 induction ls with
 | nil=>exact fun {x g D E} L _=>⟨g,D,E,L,rfl,Nat.le_refl _,by show x.now≤_;simp⟩
 | cons o ls ih =>
  intro x g D E L h;obtain ⟨Z,T,U,K,F,V,Y⟩:=L.od (h o (List.mem_cons_self ..));obtain ⟨O,H,J,M,N,X,c2⟩:=ih K (fun q R=>by rw [F];exact h q (List.mem_cons_of_mem _ R));refine ⟨O,H,J,M,N.trans F,?_,?_⟩
  ·show due (ow _ ls)≤_
   simp only [List.length_cons];omega
  ·show (ow _ ls).now≤_
   simp only [List.length_cons];omega
theorem Ia {F G:Int} (K:0≤F) (h1:F≤4) (h2:1≤G) (h3:G≤6) {ls:List Od} (M:∀ o,o ∈ ls→Ei (dS F G).1.hands.length o) (N:ls.length≤720) :
  ∃ g D E,Live (ow (dS F G).1 ls) g D E∧due (ow (dS F G).1 ls)≤720∧(ow (dS F G).1 ls).now≤720:=by
 obtain ⟨g,L,d,n,_⟩:=Live.new F G K h1 h2 h3;obtain ⟨g',H,I,J,_,b,c⟩:=L.ods ls M;exact ⟨g',H,I,J,by omega,by omega⟩
theorem ET {x:Wo} {g:Gh} {D E:List Nat} (L:Live x g D E) (H:due x≤1000) (I:x.now≤18000):∃ g' F G,Live (setW x 2000).1 g' F G∧Still (setW x 2000).1.ch (setW x 2000).1.hands∧due (setW x 2000).1=due x∧0≤(setW x 2000).2:=by
 have p:=L.pot_le;obtain ⟨g',F,G,a,b,c,_⟩:=L.settle 2000 H tO tO;have e:setW x 2000=((mg 2000 x).1,((mg 2000 x).2:Int)):=by
  unfold setW;rw [if_pos ((eZ x).2 L.r),if_pos cB,VL];rfl
 rw [e];exact ⟨g',F,G,a,b,c,by simp⟩
end
end Go.Proofs.YtffhjmepfojhnaaGreat
