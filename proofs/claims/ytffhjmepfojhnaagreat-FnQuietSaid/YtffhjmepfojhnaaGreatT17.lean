/-
  The program's refusing, moving, beginning anew, and the touches of sending that write into no cell, on hands and channels that are kept whole; the lists are the call's own.
-/
import Derived.Test.YtffhjmepfojhnaaGreatT13
import Derived.Test.YtffhjmepfojhnaaGreatT10
import Derived.Deep.RegionHeld3
import Derived.Test.YtffhjmepfojhnaaGreatT07
import Derived.Test.YtffhjmepfojhnaaGreatT06
import Derived.Deep.DeepCutAuto
import Derived.BigRegion
import Derived.Test.YtffhjmepfojhnaaGreatT05
import Derived.Test.YtffhjmepfojhnaaGreatT03
import Derived.WalkLawsBesides
set_option maxRecDepth 100000
set_option maxHeartbeats 4000000
set_option linter.unusedSimpArgs false
set_option linter.unusedVariables false
namespace Go.Proofs.YtffhjmepfojhnaaGreat
open _root_.Go.Proofs.Tryz
section
open Go.RowKit
attribute [local simp] dz
attribute [local go_sem ↓] dA fU dO gW dP gY dW fE bK eO
theorem jJ (w:World) (lo:Nat) (v1 v2:Value):Calls prog 233 #[] w fun r w'=>Ap w w' lo v1 v2 nothing r∧Below w w w':=by
 go_enter func233,ntmps233
 go_wp2;refine rE results233 rfl (bN Ch.zero (.slice none 0 0) (.slice none 0 0) qz) rfl (aQ Ha.zero qz) ⟨ru _ _ _ _ _,zB⟩
theorem fD (h:Ha) (k:Int) (w:World):Calls prog 247 #[.agg (aB h),.int .i64 k] w fun r w'=>r=.returned (.agg (aB { h with pos:=k }))∧Below w w w':=by
 go_enter func247,ntmps247
 go_wp2;refine bodyPost_ret (jY results247 rfl (aQ { h with pos:=k } yo)) rfl ⟨rfl,zB⟩
theorem GG {k e:Int} (hc:eD k e=true):called (aM 0 0) k e=(begun k e 0,0):=by
 have F:aU (aM 0 0)=true:=by decide
 have h1:(aM 0 0).pos=0:=rfl;simp [called,F,h1,hc]
theorem A8 (h:Ha) (hc:eD h.code h.elem=true) (w:World):Calls prog 250 #[.agg (aB h)] w fun r w'=>r=.returned (.agg (aB (anew h)))∧Below w w w':=by
 have CC:=Jl (aM 0 0) h.code h.elem;rw [GG hc] at CC;have e:{ begun h.code h.elem 0 with beg:=h.beg }=anew h:=rfl
 have E:=aA e;clear e;go_enter func250,ntmps250;go_wp2_with fail
 go_region_held3 (fun w'=>hp w' w=some (.cells (aB h) 49)∧w'.cell? ⟨w,1,none⟩=some (.int .i64 h.code)∧w'.cell? ⟨w,2,none⟩=some (.int .i64 h.elem))
  (first|(simp [*,go_sem]))
  (first|(go_at_call 48;refine (lv 0 0 _).mono ?_;rintro _ Z ⟨rfl,K⟩;have a6:Below w w Z:=bT zB K;have a0:=K.size;(try (simp at a0));have J:=hQ K (b:=w);(first|(simp [go_sem,M,U] at J)|(simp [go_sem] at J));(try clear Y X);(try clear M);have M:=J;clear J;(try clear U);obtain ⟨Y,X,U⟩:=bO M;have J:=hQ K (b:=w+1);(first|(simp [go_sem,G,L] at J)|(simp [go_sem] at J));(try clear V T);(try clear G);have G:=J;clear J;(try clear L);obtain ⟨V,T,L⟩:=bO G;have O:=o9 K (b:=w+1+1);(try simp [go_sem] at O);(try have aa:=(bO O).2.2);have a8:w<Z.heap.size:=tO;have N:w<Z.heap.size+1:=tO;have a3:w+1<Z.heap.size:=tO;have I:w+1<Z.heap.size+1:=tO)|(go_at_call 52;refine (CC _).mono ?_;rintro _ w2 ⟨rfl,F⟩;have a7:Below w w w2:=bT zB F;have a1:=F.size;(try (simp at a1));have J:=hQ F (b:=w);(first|(simp [go_sem,M,U,N,I] at J)|(simp [go_sem,N,I] at J));(try clear Y X);(try clear M);have M:=J;clear J;(try clear U);obtain ⟨Y,X,U⟩:=bO M;have J:=hQ F (b:=w+1);(first|(simp [go_sem,G,L,N,I] at J)|(simp [go_sem,N,I] at J));(try clear V T);(try clear G);have G:=J;clear J;(try clear L);obtain ⟨V,T,L⟩:=bO G;(first|(have a2:=(bO O).2.2;have H:=o9 F (b:=w+1+1);(simp [go_sem,O,a2] at H))|(have H:=o9 F (b:=w+1+1);(try simp [go_sem] at H)));(try have ab:=(bO H).2.2);have R:=o9 F (b:=Z);(try simp [go_sem] at R);(try have ac:=(bO R).2.2);have a9:w<w2.heap.size:=tO;have ad:w<w2.heap.size+1:=tO;have a4:w+1<w2.heap.size:=tO;have a5:w+1<w2.heap.size+1:=tO))
 all_goals (try (have y0:=(bO H).1;have g0:=(bO H).2.1))
 all_goals (try (have y1:=(bO R).1;have g1:=(bO R).2.1))
 all_goals go_wp2
 all_goals (refine bodyPost_ret (jY results250 rfl (aQ (anew h) tZ)) rfl ⟨rfl,zB⟩)
theorem qP {w:World} {lo:Nat} {e:TypeId} {k n p m:Nat} {a:Option Addr} {H:List Value} (h:w.ownsRow lo e k (.slice a n p) m H) (G:a=none):p=0:=by
 rcases h.2 with ⟨h1,_⟩|⟨g,cap,F,h1,_⟩
 ·simp at h1;exact h1.2.2
 ·subst G;simp at h1
theorem A9 (c:Ch) (v x:Int) (a b:Value):aH (cZ c v x) a b=aH c a b:=by unfold cZ;split <;> rfl
theorem mW {c:Ch} (e:aN c=true):c.cells.length=40∧c.words.length≤80:=by
 simp [aN,fH] at e;omega
theorem Dp (c:Ch) (v x:Int) (v1 v2:Value) (lo:Nat) (w:World) (h1:aF w lo v1 c.cells) (h2:aI w lo v2 c.words) (hc:aN c=true) :
  Calls prog 68 #[.agg (aH c v1 v2),.int .i64 v,.int .i64 x] w fun r w'=>(∃ F G,r=.returned (.tuple #[.agg (aH c F G),.bool (eG c v x)])∧aF w' w F c.cells∧aI w' w G (cZ c v x).words)∧Below w w w':=by
 obtain ⟨n1,O⟩:=mW hc;obtain ⟨a,p,rfl,L⟩:=h1.seg;obtain ⟨b,q,rfl,M⟩:=h2.seg;refine (Py c v x a b p q w L (qP h1) M (qP h2) tO tO).mono ?_;rintro _ w' ⟨⟨F,G,rfl,H,J⟩,N⟩;obtain ⟨I,K⟩:=FK (v:=v) (x:=x) hc;rw [I] at H J;rw [(pU c v x).1] at H;refine ⟨⟨F,G,?_,H,J⟩,N⟩;rw [I,K];show Ending.returned (.tuple #[.agg (aH (cZ c v x) F G),_])=_;rw [A9]
theorem M9 (c:Ch) (v1 v2:Value) (lo:Nat) (w:World) (h1:aF w lo v1 c.cells) (h2:aI w lo v2 c.words) (hc:aN c=true) (O:80≤c.words.length) :
  Calls prog 257 #[.agg (aH c v1 v2)] w fun r w'=>(∃ F G,r=.returned (.tuple #[.agg (aH c F G),.int .i64 0])∧aF w' w F c.cells∧aI w' w G c.words)∧Below w w w':=by
 obtain ⟨n1,R⟩:=mW hc;obtain ⟨a,p,rfl,L⟩:=h1.seg;obtain ⟨b,q,rfl,M⟩:=h2.seg;refine (Au c a b p q w L (qP h1) M (qP h2) tO tO).mono ?_;rintro _ w' ⟨⟨F,G,rfl,I,J⟩,N⟩;obtain ⟨H,K⟩:=Aq hc O;rw [H] at I J;refine ⟨⟨F,G,?_,I,J⟩,N⟩;rw [H,K];rfl
theorem MB (c:Ch) (v1 v2:Value) (lo:Nat) (w:World) (h1:aF w lo v1 c.cells) (h2:aI w lo v2 c.words) (hc:aN c=true) (O:¬ 80≤c.words.length) :
  Calls prog 257 #[.agg (aH c v1 v2)] w fun r w'=>(∃ F G,r=.returned (.tuple #[.agg (aH c F G),.int .i64 ((c.words.length:Int)+1)])∧aF w' w F c.cells∧aI w' w G (c.words ++ [0]))∧Below w w w':=by
 obtain ⟨n1,R⟩:=mW hc;obtain ⟨a,p,rfl,L⟩:=h1.seg;obtain ⟨b,q,rfl,M⟩:=h2.seg;refine (Au c a b p q w L (qP h1) M (qP h2) tO tO).mono ?_;rintro _ w' ⟨⟨F,G,rfl,I,J⟩,N⟩;obtain ⟨H,K⟩:=Ar hc O;rw [H] at I J;refine ⟨⟨F,G,?_,I,J⟩,N⟩;rw [H,K];rfl
def StepB (w w':World) (lo:Nat) (v1 v2:Value) (x:St) (r:Ending):Prop:=Ap w w' lo v1 v2 x r∧Below w w w'
theorem MC (c:Ch) (y z:Ha) (v1 v2:Value) (lo:Nat) (w:World) (h1:aF w lo v1 c.cells) (h2:aI w lo v2 c.words) (hc:aN c=true) (a0:lo≤w.heap.size) (ht:eG c y.wait 1=true) :
  Calls prog 253 #[.agg (aH c v1 v2),.agg (aB y),.agg (aB z)] w fun r w'=>StepB w w' lo v1 v2 ((cZ c y.wait 1,y,true)) r:=by
 obtain ⟨a1,q1,a2,q2,rfl,rfl,O1,O2,b1,b2⟩:=BJ h1 h2;clear h1 h2;have T:=O1.out;have U:=O2.out;go_enter func253,ntmps253;go_wp2_with fail;refine aK w zB fun O=>?_;refine (Dp c y.wait 1 _ _ lo _ (zO T T) (zO U U) hc).mono ?_;rintro _ V ⟨⟨y1,y2,rfl,F,G⟩,H⟩;obtain ⟨I,J,N⟩:=D8 O H (b:=w);(try simp at J);(try simp [go_sem] at N);replace bX:=ng N;clear N;have R:=I;clear H O
 rw [ht]
 try simp at F G
 have K:ic w (.slice a1 c.cells q1) y1:=fun j M=>.inr (by have:=(F.lt j M).1;(try simp at this);omega)
 have L:ic w (.slice a2 c.words q2) y2:=fun j M=>.inr (by have:=(G.lt j M).1;(try simp at this);omega)
 obtain ⟨X,Z,rfl,_⟩:=F.seg;obtain ⟨Y,yq,rfl,_⟩:=G.seg;have r1:=aL (lo':=lo) F tO;have r2:=aL (lo':=lo) G tO;obtain ⟨k0,k1,k2,k3⟩:=pz (a:=w) (b:=V);have k4:w+1+1+1+1<V.heap.size:=tO;go_wp2_with fail
 go_region
 go_wp2;refine rE results253 rfl (bN c (.slice X c.cells Z) (.slice Y (cZ c y.wait 1).words.length yq) tZ) rfl (aQ y tZ) ⟨⟨.slice X c.cells Z,.slice Y (cZ c y.wait 1).words.length yq,by (rw [A9];rfl),?_,?_,K,L⟩,zB⟩
 ·show aF _ lo _ (cZ c y.wait 1).cells
  rw [(pU c y.wait 1).1];exact zO r1 F
 ·exact zO r2 G
theorem PM (c:Ch) (y z:Ha) (v1 v2:Value) (lo:Nat) (w:World) (h1:aF w lo v1 c.cells) (h2:aI w lo v2 c.words) (hc:aN c=true) (Y:lo≤w.heap.size) (ht:eG c y.wait 1=false) :
  Calls prog 253 #[.agg (aH c v1 v2),.agg (aB y),.agg (aB z)] w fun r w'=>StepB w w' lo v1 v2 ((c,z,true)) r:=by
 obtain ⟨V,q1,X,q2,rfl,rfl,T,U,b1,b2⟩:=BJ h1 h2;clear h1 h2;have J:=T.out;have K:=U.out;go_enter func253,ntmps253;go_wp2_with fail;refine aK w zB fun O=>?_;refine (Dp c y.wait 1 _ _ lo _ (zO J J) (zO K K) hc).mono ?_;rintro _ R ⟨⟨y1,y2,rfl,L,M⟩,G⟩;obtain ⟨H,I,N⟩:=D8 O G (b:=w);(try simp at I);(try simp [go_sem] at N);replace bX:=ng N;clear N;have F:=H;clear G O
 rw [ht];obtain ⟨ya,yp,rfl,_⟩:=L.seg;obtain ⟨yb,yq,rfl,_⟩:=M.seg;have Z:=own_below J F;have p2:=own_below K F;obtain ⟨k0,k1,k2,k3⟩:=pz (a:=w) (b:=R);have k4:w+1+1+1+1<R.heap.size:=tO;go_wp2_with fail
 go_region
 go_wp2;refine rE results253 rfl (bN c (.slice V c.cells q1) (.slice X c.words q2) tZ) rfl (aQ z (by simp [go_sem, *] <;> first|rfl|simp [dC,anew,hci])) ⟨⟨_,_,rfl,?_,?_,aP _ _,aP _ _⟩,zB⟩
 ·exact zO Z J
 ·exact zO p2 K
def Ju (c:Ch) (y z:Ha):St:=if eG c y.wait 1 then (cZ c y.wait 1,y,true) else (c,z,true)
theorem Dq (c:Ch) (y z:Ha) (v1 v2:Value) (lo:Nat) (w:World) (h1:aF w lo v1 c.cells) (h2:aI w lo v2 c.words) (hc:aN c=true) (F:lo≤w.heap.size) :
  Calls prog 253 #[.agg (aH c v1 v2),.agg (aB y),.agg (aB z)] w fun r w'=>StepB w w' lo v1 v2 (Ju c y z) r:=by
 cases ht:eG c y.wait 1 with
 | true =>
  rw [show Ju c y z=(cZ c y.wait 1,y,true) by simp [Ju,ht]]
  exact MC c y z v1 v2 lo w h1 h2 hc F ht
 | false =>
  rw [show Ju c y z=(c,z,true) by simp [Ju,ht]]
  exact PM c y z v1 v2 lo w h1 h2 hc F ht
end
section
open Go.RowKit
theorem oO (c:Ch) (i:Nat) (f t v:Int) (v1 v2:Value) (lo:Nat) (w:World) (h1:aF w lo v1 c.cells) (h2:aI w lo v2 c.words) (hi:i<c.cells.length) :
  Calls prog 254 #[.agg (aH c v1 v2),.int .i64 i,.int .i64 f,.int .i64 t,.int .i64 v] w fun r w'=>r=.returned (.bool (bB c i f t v))∧aF w' lo v1 (bU c i f t v).cells∧aI w' lo v2 c.words∧w.grownBy w' v1.ownBlock:=by
 have O2:=aA h2;have a9:=h1.ne h2;obtain ⟨b,q,rfl,_⟩:=h2.seg;obtain ⟨g,cap,rfl,a8,I,G,a3⟩:=h1.open1 hi;have O1:=aA h1;have c0:=G 0 tO;have U:=G 1 tO;have c2:=G 2 tO;simp only [C3.val,Nat.add_zero] at c0 U c2;have a6:(0:Int)≤(i:Int):=tO;have a7:(i:Int)<(c.cells.length:Int):=tO;have a5:w.heap.size≠g:=tO;have X:w.heap.size+1≠g:=tO;have Y:g≠w.heap.size:=tO;have Z:g≠w.heap.size+1:=tO;rw [yK,Dh];unfold vW mF
 generalize M:c.cells.getD i ⟨0,0,0⟩=x at c0 U c2;clear h1 h2 G M;unfold aH;go_enter func254,ntmps254;go_wp2_with fail;refine aK w zB fun T=>?_;refine (Jc _ _ _ f t v _).mono ?_;rintro _ L ⟨hr,H⟩;have F:=bT T H;have J:=H.size;(try simp at J);have O:=sJ H (b:=w);(try simp [go_sem] at O);replace bX:=O;clear O;have V:=F;clear H T
 unfold yA at hr;subst hr;have N:=O1.out;have K:=O2.out;have p1:=own_below N F;have p2:=own_below K F;have d1:=fun o=>(F.cell (p:=⟨g,o,none⟩) I)
 have d2:=fun o=>(F.frozen (p:=⟨g,o,none⟩) I)
 have a0:g<L.heap.size:=tO;have a1:L.heap.size≠g:=tO;have a2:g≠L.heap.size:=tO;have R:=aF.set p1 hi (mF x f t v);simp only [mF] at R;go_wp2;go_ret;refine ⟨rfl,?_,?_,?_⟩
 ·exact zO R N
 ·(repeat first|with_reducible exact p2|with_reducible refine xG ?_ _|with_reducible refine wM ?_|((with_reducible first|refine aV ?_ ?_ _|refine fC ?_ ?_);rotate_left;focus first|(refine own_ne K ?_;(try dsimp only);omega)|(refine dN K ?_;(try dsimp only);omega)|exact fun h=>aF.ne N K _ rfl h))
 ·have a4:Gr g w L:=zf F
  show Gr g w _;exact zG
attribute [local simp] dz
attribute [local go_sem ↓] dA fU dO gW dP gY dW fE bK eO
theorem mX (h:Ha) (s e t:Int) (w:World):Calls prog 249 #[.agg (aB h),.agg #[.int .i64 s,.int .i64 e,.int .i64 t]] w fun r w'=>r=.returned (.agg (aB { h with seen:=s,wait:=t }))∧Below w w w':=by
 go_enter func249,ntmps249
 go_wp2_with fail
 go_region
 all_goals go_wp2
 all_goals exact bodyPost_ret (jY results249 rfl (aQ { h with seen:=s,wait:=t } tZ)) rfl ⟨rfl,zB⟩
end
section
open Go.RowKit
attribute [local simp] dz
attribute [local go_sem ↓] dA fU dO gW dP gY dW fE bK eO
theorem Jv (c:Ch) (v1 v2:Value) (lo:Nat) (L:List Int) (m:Int) (w:World) (h1:aF w lo v1 c.cells) (h2:aI w lo v2 c.words) (hc:aN c=true) (I:¬ 80≤c.words.length) (H:L=c.words ++ [0]) (J:m=(c.words.length:Int)+1) :
    Calls prog 257 #[.agg (aH c v1 v2)] w fun r w'=>(∃ F G,r=.returned (.tuple #[.agg (aH c F G),.int .i64 m])∧aF w' w F c.cells∧aI w' w G L)∧Below w w w':=by
  subst H J;exact MB c v1 v2 lo w h1 h2 hc I
theorem GH (c:Ch) (st:Int) (y z:Ha) (v1 v2:Value) (lo:Nat) (w:World) (h1:aF w lo v1 c.cells) (h2:aI w lo v2 c.words) (hc:aN c=true) (hf:80≤c.words.length) :
    Calls prog 255 #[.agg (aH c v1 v2),.int .i64 st,.agg (aB y),.agg (aB z)] w fun r w'=>StepB w w' lo v1 v2 ((c,aM 4 0,true)) r:=by
  obtain ⟨V,q1,X,q2,rfl,rfl,O1,O2,b1,b2⟩:=BJ h1 h2;clear h1 h2;have O:=O1.out;have R:=O2.out;go_enter func255,ntmps255;go_wp2_with fail;refine aK w zB fun J=>?_;refine (M9 c _ _ lo _ (zO O O) (zO R R) hc hf).mono ?_;rintro _ w1 ⟨⟨y1,y2,rfl,T,U⟩,G⟩;obtain ⟨K,M,I⟩:=D8 J G (b:=w);(try simp at M);(try simp [go_sem] at I);replace Y:=ng I;clear I;have Z:=K;clear G J
  obtain ⟨ya,yp,rfl,_⟩:=T.seg;obtain ⟨yb,yq,rfl,_⟩:=U.seg;obtain ⟨k0,k1,k2,k3⟩:=pz (a:=w) (b:=w1);have k4:w+1+1+1+1<w1.heap.size:=tO;go_wp2_with fail
  go_region_held3 (fun w'=>hp w' w=some (.cells (aH c (.slice V c.cells q1) (.slice X c.words q2)) 31)∧hp w' (w+1)=some (.cells (aB y) 49))
    (first|(simp [*,go_sem]))
    (first|((go_at_call 48;refine aK w zB fun J=>?_;refine (lv _ _ _).mono ?_;rintro _ w2 ⟨rfl,H⟩;obtain ⟨L,N,I⟩:=D8 J H (b:=w);(try simp at N);(first|simp [go_sem,Y,k0,k1,k2,k3,k4] at I|simp [go_sem] at I|skip);replace Y:=ng I;clear I;have F:=L;clear H J);have p1:=own_below O F;have p2:=own_below R F))
  go_wp2;refine rE results255 rfl (bN c (.slice V c.cells q1) (.slice X c.words q2) tZ) rfl (aQ (aM 4 0) (by simp [go_sem, *] <;> first|rfl|simp [dC,anew,hci])) ⟨⟨_,_,rfl,?_,?_,aP _ _,aP _ _⟩,zB⟩
  · exact zO p1 O
  · exact zO p2 R
theorem AA (c:Ch) (I:Int) (y z:Ha) (v1 v2:Value) (lo:Nat) (w:World) (h1:aF w lo v1 c.cells) (h2:aI w lo v2 c.words) (a9:0≤y.cell) (aa:y.cell<c.cells.length) (hc:aN c=true) (ac:lo≤w.heap.size) (hf:¬ 80≤c.words.length) (m:Int) (hm:m=(c.words.length:Int)+1) :
    (∀ (ht:bB c y.cell y.seen I m=false),Calls prog 255 #[.agg (aH c v1 v2),.int .i64 I,.agg (aB y),.agg (aB z)] w fun r w'=>StepB w w' lo v1 v2 ((c,z,true)) r) ∧
    (∀ (ht:bB c y.cell y.seen I m=true),Calls prog 255 #[.agg (aH c v1 v2),.int .i64 I,.agg (aB y),.agg (aB z)] w fun r w'=>StepB w w' lo v1 v2 (({ bU c y.cell y.seen I m with words:=c.words ++ [0] },{ y with mine:=m },true)) r):=by
  constructor
  case' left =>
    intro ht;have M:Hid (0=0):=rfl
  case' right =>
    intro ht;have N:Hid (0=0):=rfl
  all_goals
    obtain ⟨i,V⟩:∃ i:Nat,y.cell=(i:Int):=⟨y.cell.toNat,by omega⟩;have hi:i<c.cells.length:=tO;have ad:(m == 0)=false:=by simp;omega
    have ae:¬ m=0:=tO;obtain ⟨L,hL⟩:∃ L,L=c.words ++ [0]:=⟨_,rfl⟩;have a5:=aA fun v1 v2 lo W a1 a2=>Jv c v1 v2 lo L m W a1 a2 hc hf hL hm
    have T:=aA fun (u1 u2:Value) (lo:Nat) (W:World) (x1:aF W lo u1 c.cells) (x2:aI W lo u2 L)=>oO { c with words:=L } i y.seen I m u1 u2 lo W x1 x2 hi
    first
    | (replace M:=M;have X:bB { c with words:=L } i y.seen I m=false:=by rw [← ht,V];rfl)
    | (replace N:=N;have X:bB { c with words:=L } i y.seen I m=true:=by rw [← ht,V];rfl)
    rw [X] at T
    first
    | replace M:=M
    | (replace N:=N
       have e0:({ bU c y.cell y.seen I m with words:=c.words ++ [0] },{ y with mine:=m },true)=(({ bU c i y.seen I m with words:=L },{ y with mine:=m },true):St):=by rw [V,hL]
       rw [e0]
       clear e0)
    clear hm hf hL ht X a9 aa;have b1:=nC h1;have b2:=nC h2;have o1:=h1;have o2:=h2;obtain ⟨a1,q1,e1,_⟩:=h1.seg;obtain ⟨a2,q2,e2,_⟩:=h2.seg;subst e1 e2;clear h1 h2;go_enter func255,ntmps255;go_wp2_with fail;refine aK w zB fun bb=>?_;refine (a5.out _ _ lo _ (zO o1 o1) (zO o2 o2)).mono ?_;rintro _ w1 ⟨⟨O,y2,rfl,G,H⟩,K⟩;obtain ⟨Y,a0,R⟩:=D8 bb K (b:=w);(try simp at a0);(try simp [go_sem] at R);replace bX:=ng R;clear R;have ab:=Y;clear K bb
    try simp at G H
    have a6:ic w (.slice a1 c.cells q1) O:=fun j hj=>.inr (by have:=(G.lt j hj).1;omega)
    have a7:ic w (.slice a2 c.words q2) y2:=fun j hj=>.inr (by have:=(H.lt j hj).1;omega)
    have n0:some (w.heap.size)≠O.ownBlock:=fun e=>by have:=(G.lt _ e.symm).1;omega
    have n1:some (w.heap.size+1)≠O.ownBlock:=fun e=>by have:=(G.lt _ e.symm).1;omega
    have n2:some (w.heap.size+1+1)≠O.ownBlock:=fun e=>by have:=(G.lt _ e.symm).1;omega
    have n3:some (w.heap.size+1+1+1)≠O.ownBlock:=fun e=>by have:=(G.lt _ e.symm).1;omega
    have n4:some (w.heap.size+1+1+1+1)≠O.ownBlock:=fun e=>by have:=(G.lt _ e.symm).1;omega
    have n5:some w1.heap.size≠O.ownBlock:=fun e=>by have:=(G.lt _ e.symm).2;omega
    have a4:∀ k,O.ownBlock=some k→w.heap.size≤k:=fun k hk=>by have:=(G.lt k hk).1;omega
    obtain ⟨ya,yp,e1,_⟩:=G.seg;obtain ⟨yb,yq,e2,_⟩:=H.seg;subst e1 e2;obtain ⟨k0,k1,k2,k3⟩:=pz (a:=w) (b:=w1);have k4:w+1+1+1+1<w1.heap.size:=tO;have r1:=aL (lo':=lo) G tO;have r2:=aL (lo':=lo) H tO;go_wp2_with fail;refine (T.out _ _ lo _ (zO r1 G) (zO r2 H)).mono ?_;rintro _ J ⟨rfl,p1,p2,F⟩;have a3:=F.size;(try (simp at a3));have R:=And.intro (bM F (b:=w1) tS dM) <| And.intro (bM F (b:=w+1+1+1+1) tS dM) <| And.intro (bM F (b:=w+1+1+1) tS dM) <| And.intro (bM F (b:=w+1+1) tS dM) <| And.intro (bM F (b:=w+1) tS dM) <| bM F (b:=w) tS dM;(first|simp [go_sem,bX,k0,k1,k2,k3,k4] at R|simp [go_sem] at R|skip);replace bX:=Xc R;clear R;have Z:=NT (w:=w) zB F;clear F
    have a8:ni (Value.slice ya c.cells yp).ownBlock (Value.slice ya c.cells yp).ownBlock w J:=rA Z;have U:Below w w J:=Lt (Below.refl _ _) a8 a4 a4;have af:=U.size;have j0:w<J.heap.size:=tO;have j1:w+1<J.heap.size:=tO;have j2:w+1+1<J.heap.size:=tO;have j3:w+1+1+1<J.heap.size:=tO;have j4:w+1+1+1+1<J.heap.size:=tO
    first
    | (replace M:=M
       have s1:=own_below o1 U
       have s2:=own_below o2 U)
    | (replace N:=N
       have s1:aF J lo (.slice ya c.cells yp) (bU c i y.seen I m).cells:=p1
       have s2:aI J lo (.slice yb L.length yq) L:=p2)
    go_wp2_with fail
    go_region
    all_goals go_wp2
    first
    | (replace M:=M
       all_goals (refine rE results255 rfl (bN c (.slice a1 c.cells q1) (.slice a2 c.words q2) tZ) rfl (aQ z tZ) ⟨⟨_,_,rfl,?_,?_,aP _ _,aP _ _⟩,zB⟩)
       all_goals first|(show aF _ _ _ c.cells;exact zO s1 o1)|skip
       all_goals (show aI _ _ _ c.words;exact zO s2 o2))
    | (replace N:=N
       all_goals (refine rE results255 rfl (bN c (.slice ya c.cells yp) (.slice yb L.length yq) tZ) rfl (aQ { y with mine:=m } tZ) ⟨⟨_,_,rfl,?_,?_,a6,a7⟩,zB⟩)
       all_goals first|(show aF _ _ _ (bU c i y.seen I m).cells;exact zO s1 G)|skip
       all_goals (show aI _ _ _ L;exact zO s2 H))
theorem ME (c:Ch) (I:Int) (y z:Ha) (v1 v2:Value) (lo:Nat) (w:World) (h1:aF w lo v1 c.cells) (h2:aI w lo v2 c.words) (F:0≤y.cell) (G:y.cell<c.cells.length) (hc:aN c=true) (H:lo≤w.heap.size) (J:¬ 80≤c.words.length) (m:Int) (K:m=(c.words.length:Int)+1) (ht:bB c y.cell y.seen I m=false) :
    Calls prog 255 #[.agg (aH c v1 v2),.int .i64 I,.agg (aB y),.agg (aB z)] w fun r w'=>StepB w w' lo v1 v2 ((c,z,true)) r:=(AA c I y z v1 v2 lo w h1 h2 F G hc H J m K).1 ht
theorem Jw (c:Ch) (F:Int) (y z:Ha) (v1 v2:Value) (lo:Nat) (w:World) (h1:aF w lo v1 c.cells) (h2:aI w lo v2 c.words) (G:0≤y.cell) (H:y.cell<c.cells.length) (hc:aN c=true) (I:lo≤w.heap.size) (J:¬ 80≤c.words.length) (m:Int) (K:m=(c.words.length:Int)+1) (ht:bB c y.cell y.seen F m=true) :
    Calls prog 255 #[.agg (aH c v1 v2),.int .i64 F,.agg (aB y),.agg (aB z)] w fun r w'=>StepB w w' lo v1 v2 (({ bU c y.cell y.seen F m with words:=c.words ++ [0] },{ y with mine:=m },true)) r:=(AA c F y z v1 v2 lo w h1 h2 G H hc I J m K).2 ht
def GI (c:Ch) (st:Int) (y z:Ha):St :=
  if 80≤c.words.length then (c,aM 4 0,true) else
  if bB c y.cell y.seen st (c.words.length+1) then ({ bU c y.cell y.seen st (c.words.length+1) with words:=c.words ++ [0] },{ y with mine:=c.words.length+1 },true) else (c,z,true)
theorem Jy (c:Ch) (F:Int) (y z:Ha) (v1 v2:Value) (lo:Nat) (w:World) (h1:aF w lo v1 c.cells) (h2:aI w lo v2 c.words) (H:0≤y.cell) (I:y.cell<c.cells.length) (hc:aN c=true) (J:lo≤w.heap.size) :
    Calls prog 255 #[.agg (aH c v1 v2),.int .i64 F,.agg (aB y),.agg (aB z)] w fun r w'=>StepB w w' lo v1 v2 (GI c F y z) r:=by
  by_cases G:80≤c.words.length
  · rw [show GI c F y z=(c,aM 4 0,true) by simp [GI,G]]
    exact GH c F y z v1 v2 lo w h1 h2 hc G
  · cases ht:bB c y.cell y.seen F (c.words.length+1) with
    | true =>
      rw [show GI c F y z=({ bU c y.cell y.seen F (c.words.length+1) with words:=c.words ++ [0] },{ y with mine:=c.words.length+1 },true) by simp [GI,G,ht]]
      exact Jw c F y z v1 v2 lo w h1 h2 H I hc J G _ rfl ht
    | false =>
      rw [show GI c F y z=(c,z,true) by simp [GI,G,ht]]
      exact ME c F y z v1 v2 lo w h1 h2 H I hc J G _ rfl ht
theorem pY (h:Ha) (t:Int) (w:World):Calls prog 264 #[.agg (aB h),.int .i64 t] w fun r w'=>r=.returned (.agg (aB (dL h t)))∧Below w w w':=by
 go_enter func264,ntmps264
 go_wp2_with fail;refine aK w zB fun I=>?_;refine (fD { h with nxt:=t } 16 _).mono ?_;rintro _ L ⟨rfl,F⟩;obtain ⟨J,G,H⟩:=I9 I F (b:=w);(try simp at G);(try simp [go_sem] at H);replace K:=zX H;clear H F I
 go_wp2;refine bodyPost_ret (jY results264 rfl (aQ (dL h t) tZ)) rfl ⟨rfl,zB⟩
theorem DW (c:Ch) (h:Ha) (v1 v2:Value) (lo:Nat) (w:World) (h1:aF w lo v1 c.cells) (h2:aI w lo v2 c.words) (hs:c.got=40) :
  ed 261 c h v1 v2 lo w ((c,aM 4 0,true)):=by
 obtain ⟨K,R,L,T,rfl,rfl,U,V,Z,b2⟩:=BJ h1 h2;clear h1 h2;have N:=U.out;have O:=V.out;go_enter func261,ntmps261;go_wp2_with fail
 go_region_held3 (fun w'=>hp w' w=some (.cells (aH c (.slice K c.cells R) (.slice L c.words T)) 31)∧hp w' (w+1)=some (.cells (aB h) 49))
  (first|(simp [*,go_sem]))
  (first|((go_at_call 48;refine aK w zB fun M=>?_;refine (lv _ _ _).mono ?_;rintro _ w1 ⟨rfl,G⟩;obtain ⟨H,I,J⟩:=gZ M G (b:=w);(try simp at I);(try simp [go_sem] at J);replace bX:=fP J;clear J;have F:=H;clear G M);have X:=own_below N F;have Y:=own_below O F))
 go_wp2;refine rE results261 rfl (bN c (.slice K c.cells R) (.slice L c.words T) tZ) rfl (aQ (aM 4 0) tZ) ⟨⟨_,_,rfl,?_,?_,aP _ _,aP _ _⟩,gy zB⟩
 ·exact zO X N
 ·exact zO Y O
theorem DX (c:Ch) (h:Ha) (v1 v2:Value) (lo:Nat) (w:World) (h1:aF w lo v1 c.cells) (h2:aI w lo v2 c.words) (hs:¬ c.got=40) (X:0≤c.got∧c.got≤40) :
  ed 261 c h v1 v2 lo w (({ c with got:=c.got+1 },{ h with cell:=c.got,pos:=10 },true)):=by
 obtain ⟨K,R,L,T,rfl,rfl,U,V,b1,b2⟩:=BJ h1 h2;clear h1 h2;have N:=U.out;have O:=V.out;go_enter func261,ntmps261;go_wp2_with fail
 go_region_held3 (fun w'=>hp w' w=some (.cells (aH { c with got:=c.got+1 } (.slice K c.cells R) (.slice L c.words T)) 31)∧hp w' (w+1)=some (.cells (aB { h with cell:=c.got }) 49))
  (first|(simp [*,go_sem]))
  (first|((go_at_call 247;refine aK w zB fun M=>?_;refine (fD _ _ _).mono ?_;rintro _ w1 ⟨rfl,G⟩;obtain ⟨H,I,J⟩:=gZ M G (b:=w);(try simp at I);(try simp [go_sem] at J);replace bX:=fP J;clear J;have F:=H;clear G M);have Y:=own_below N F;have Z:=own_below O F))
 go_wp2;refine rE results261 rfl (bN { c with got:=c.got+1 } (.slice K c.cells R) (.slice L c.words T) tZ) rfl (aQ { h with cell:=c.got,pos:=10 } tZ) ⟨⟨_,_,rfl,?_,?_,aP _ _,aP _ _⟩,gy zB⟩
 ·exact zO Y N
 ·exact zO Z O
theorem vH (c:Ch) (G wt:Int) (y z:Ha) (v1 v2:Value) (lo:Nat) (w:World) (h1:aF w lo v1 c.cells) (h2:aI w lo v2 c.words) (X:0≤y.cell) (Y:y.cell<c.cells.length) :
  (∀ (ht:bB c y.cell y.seen G wt=true),Calls prog 265 #[.agg (aH c v1 v2),.int .i64 G,.int .i64 wt,.agg (aB y),.agg (aB z)] w fun r w'=>eB w w' lo v1 v2 (bU c y.cell y.seen G wt,y,true) r) ∧
  (∀ (ht:bB c y.cell y.seen G wt=false),Calls prog 265 #[.agg (aH c v1 v2),.int .i64 G,.int .i64 wt,.agg (aB y),.agg (aB z)] w fun r w'=>eB w w' lo v1 v2 (bU c y.cell y.seen G wt,z,true) r):=by
 constructor
 case' left =>
  intro ht;have mA:Hid (0=0):=rfl
 case' right =>
  intro ht;have mB:Hid (0=0):=rfl
 all_goals
  obtain ⟨i,J⟩:∃ i:Nat,y.cell=(i:Int):=⟨y.cell.toNat,by omega⟩;have hi:i<c.cells.length:=tO;have T:=aA fun W a b=>oO c i y.seen G wt v1 v2 lo W a b hi
  have H:=ht;rw [J] at H;rw [H] at T;have e0:bU c y.cell y.seen G wt=bU c i y.seen G wt:=by rw [J]
  rw [e0];have b1:=nC h1;have b2:=nC h2;have L:=sH b1;have M:=sH b2;have a3:=L (w.heap.size) tO;have a8:=M (w.heap.size) tO;have a4:=L (w+1) tO;have a9:=M (w+1) tO;have a5:=L (w+1+1) tO;have aa:=M (w+1+1) tO;have a6:=L (w+1+1+1) tO;have ab:=M (w+1+1+1) tO;have a7:=L (w+1+1+1+1) tO;have ac:=M (w+1+1+1+1) tO;have Z:=h1;have o2:=h2;obtain ⟨O,U,e1,_⟩:=h1.seg;obtain ⟨R,V,e2,_⟩:=h2.seg;subst e1 e2;clear h1 h2 ht H e0 X Y
  go_enter func265,ntmps265
  go_wp2_with fail;refine (T.out _ (zO Z Z) (zO o2 o2)).mono ?_;rintro _ N ⟨rfl,p1,p2,F⟩;have K:=F.size;(try (simp at K));have zz:=WL F (b:=w);(try simp [go_sem] at zz);replace bX:=ng zz;clear zz;have I:=NT (w:=w) zB F;clear F
  have a0:ni (Value.slice O c.cells U).ownBlock (Value.slice R c.words V).ownBlock w N:=rA I;obtain ⟨k0,k1,k2,k3⟩:=pz (a:=w) (b:=N);have k4:w+1+1+1+1<N.heap.size:=tO;have r1:aF N lo (.slice O c.cells U) (bU c i y.seen G wt).cells:=p1;have r2:aI N lo (.slice R c.words V) (bU c i y.seen G wt).words:=p2;clear p1 p2;go_wp2_with fail
  go_region
  go_wp2
  first
  | (replace mA:=mA;refine rE results265 rfl (bN c (.slice O c.cells U) (.slice R c.words V) tZ) rfl (aQ y tZ) ⟨⟨_,_,rfl,?_,?_,aP _ _,aP _ _⟩,zN⟩)
  | (replace mB:=mB;refine rE results265 rfl (bN c (.slice O c.cells U) (.slice R c.words V) tZ) rfl (aQ z tZ) ⟨⟨_,_,rfl,?_,?_,aP _ _,aP _ _⟩,zN⟩)
  ·exact zO r1 Z
  ·exact zO r2 o2
theorem DY (c:Ch) (F wt:Int) (y z:Ha) (v1 v2:Value) (lo:Nat) (w:World) (h1:aF w lo v1 c.cells) (h2:aI w lo v2 c.words) (G:0≤y.cell) (H:y.cell<c.cells.length) (ht:bB c y.cell y.seen F wt=true) :
  Calls prog 265 #[.agg (aH c v1 v2),.int .i64 F,.int .i64 wt,.agg (aB y),.agg (aB z)] w fun r w'=>eB w w' lo v1 v2 (bU c y.cell y.seen F wt,y,true) r:=(vH c F wt y z v1 v2 lo w h1 h2 G H).1 ht
theorem DZ (c:Ch) (F wt:Int) (y z:Ha) (v1 v2:Value) (lo:Nat) (w:World) (h1:aF w lo v1 c.cells) (h2:aI w lo v2 c.words) (G:0≤y.cell) (H:y.cell<c.cells.length) (ht:bB c y.cell y.seen F wt=false) :
  Calls prog 265 #[.agg (aH c v1 v2),.int .i64 F,.int .i64 wt,.agg (aB y),.agg (aB z)] w fun r w'=>eB w w' lo v1 v2 (bU c y.cell y.seen F wt,z,true) r:=(vH c F wt y z v1 v2 lo w h1 h2 G H).2 ht
theorem om {c:Ch} {i f t v:Int} (h:bB c i f t v=false):bU c i f t v=c:=by
 have e:mF (cellAt c i) f t v=cellAt c i:=by
  have h2:kP (cellAt c i).s (cellAt c i).e (cellAt c i).t f t v=false:=h;simp [mF,oF,wV,h2]
 unfold bU setAt;rw [e];unfold cellAt;have:c.cells.set i.toNat (c.cells.getD i.toNat ⟨0,0,0⟩)=c.cells:=by
  apply List.ext_getElem?;intro n;rw [List.getElem?_set];by_cases G:i.toNat=n
  ·subst G
   by_cases F:i.toNat<c.cells.length
   ·simp [F]
   ·simp [F,Nat.le_of_not_lt F]
  ·simp [G]
 rw [this]
theorem rU (c:Ch) (F wt:Int) (y z:Ha) (v1 v2:Value) (lo:Nat) (w:World) (h1:aF w lo v1 c.cells) (h2:aI w lo v2 c.words) (G:0≤y.cell) (H:y.cell<c.cells.length) :
  Calls prog 265 #[.agg (aH c v1 v2),.int .i64 F,.int .i64 wt,.agg (aB y),.agg (aB z)] w fun r w'=>eB w w' lo v1 v2 (zl c F wt y z) r:=by
 cases ht:bB c y.cell y.seen F wt with
 | true =>
  rw [show zl c F wt y z=(bU c y.cell y.seen F wt,y,true) by simp [zl,ht]]
  exact DY c F wt y z v1 v2 lo w h1 h2 G H ht
 | false =>
  have:=DZ c F wt y z v1 v2 lo w h1 h2 G H ht;rw [om ht] at this;rw [show zl c F wt y z=(c,z,true) by simp [zl,ht]]
  exact this
def mY (h:Ha) (x:Int):Ha:=if x == 0 then h else if x == 2 then { h with pos:=25 } else if h.code == 1 then aM 1 0 else { h with pos:=24 }
theorem Dr (c:Ch) (v:Int) (v1 v2:Value) (lo:Nat) (w:World) (h1:aF w lo v1 c.cells) (h2:aI w lo v2 c.words) (hc:aN c=true) :
  Calls prog 280 #[.agg (aH c v1 v2),.int .i64 v] w fun r w'=>r=.returned (.int .i64 (jA c v))∧Below w w w':=by
 obtain ⟨n1,H⟩:=mW hc;obtain ⟨a,p,rfl,F⟩:=h1.seg;obtain ⟨b,q,rfl,G⟩:=h2.seg;exact IM c v a b p q w F G zM zM
theorem oo (c:Ch) (h:Ha) (v1 v2:Value) (lo:Nat) (w:World) (h1:aF w lo v1 c.cells) (h2:aI w lo v2 c.words) (hc:aN c=true) (x:Int) (L:jA c h.mine=x) (hp:¬ x<0) :
  Calls prog 276 #[.agg (aH c v1 v2),.agg (aB h)] w fun r w'=>r=.returned (.int .i64 x)∧Below w w w':=by
 have I:=aA fun W a b=>Dr c h.mine v1 v2 lo W a b hc
 rw [L] at I;clear L;obtain ⟨T,Z,U,q2,rfl,rfl,O,R,V,X⟩:=BJ h1 h2;clear h1 h2;have M:=O.out;have N:=R.out;go_enter func276,ntmps276;go_wp2_with fail;refine aK w zB fun J=>?_;refine (I.out _ (zO M M) (zO N N)).mono ?_;rintro _ w1 ⟨rfl,F⟩;obtain ⟨K,G,H⟩:=I9 J F (b:=w);(try simp at G);(try simp [go_sem] at H);replace Y:=zX H;clear H F J
 go_wp2;go_ret;exact ⟨rfl,zB⟩
theorem Jz (c:Ch) (h:Ha) (v1 v2:Value) (lo:Nat) (w:World) (h1:aF w lo v1 c.cells) (h2:aI w lo v2 c.words) (hc:aN c=true) (L:jA c h.mine=-1) :
  Calls prog 276 #[.agg (aH c v1 v2),.agg (aB h)] w fun e U=>∃ T s,e=.panicked [{ v:=.iface T s,recovered:=false }]∧Below w w U:=by
 have I:=aA fun W a b=>Dr c h.mine v1 v2 lo W a b hc
 rw [L] at I;clear L;obtain ⟨V,q1,X,q2,rfl,rfl,O,R,Y,Z⟩:=BJ h1 h2;clear h1 h2;have M:=O.out;have N:=R.out;go_enter func276,ntmps276;go_wp2_with fail;refine aK w zB fun J=>?_;refine (I.out _ (zO M M) (zO N N)).mono ?_;rintro _ w1 ⟨rfl,F⟩;obtain ⟨K,G,H⟩:=I9 J F (b:=w);(try simp at G);(try simp [go_sem] at H);replace bX:=zX H;clear H F J
 go_wp2;exact ⟨rfl,_,_,rfl,zB⟩
theorem J2 (k e:Int) (w:World):Calls prog 279 #[.agg #[.int .i64 k,.int .i64 e]] w fun r w'=>r=.returned (.int .i64 (if k == 1 then 9 else 10))∧Below w w w':=by
 go_enter func279,ntmps279
 go_wp2
 all_goals go_ret
 all_goals exact ⟨ry (by simp_all),zB⟩
theorem Sr (h:Ha) (x:Int) (w:World) (F:x=0):Calls prog 277 #[.agg (aB h),.int .i64 x] w fun r w'=>r=.returned (.agg (aB h))∧Below w w w':=by
 go_enter func277,ntmps277
 subst F;go_wp2;exact bodyPost_ret (jY results277 rfl (aQ h tZ)) rfl ⟨rfl,zB⟩
theorem Su (h:Ha) (x:Int) (w:World) (K:x=2):Calls prog 277 #[.agg (aB h),.int .i64 x] w fun r w'=>r=.returned (.agg (aB { h with pos:=25 }))∧Below w w w':=by
 go_enter func277,ntmps277
 subst K;go_wp2_with fail;refine aK w zB fun I=>?_;refine (fD _ _ _).mono ?_;rintro _ M ⟨rfl,F⟩;obtain ⟨J,G,H⟩:=I9 I F (b:=w);(try simp at G);(try simp [go_sem] at H);replace L:=zX H;clear H F I
 go_wp2;exact bodyPost_ret (jY results277 rfl (aQ { h with pos:=25 } tZ)) rfl ⟨rfl,zB⟩
theorem Sw (h:Ha) (x:Int) (w:World) (L:(x == 0)=false) (h2:(x == 2)=false) (M:(h.code == 1)=true):Calls prog 277 #[.agg (aB h),.int .i64 x] w fun r w'=>r=.returned (.agg (aB (aM 1 0)))∧Below w w w':=by
 go_enter func277,ntmps277
 go_wp2_with fail;refine aK w zB fun I=>?_;refine (lv _ _ _).mono ?_;rintro _ N ⟨rfl,F⟩;obtain ⟨J,G,H⟩:=I9 I F (b:=w);(try simp at G);(try simp [go_sem] at H);replace K:=zX H;clear H F I
 go_wp2;exact bodyPost_ret (jY results277 rfl (aQ (aM 1 0) tZ)) rfl ⟨rfl,zB⟩
theorem Sz (h:Ha) (x:Int) (w:World) (L:(x == 0)=false) (h2:(x == 2)=false) (M:(h.code == 1)=false):Calls prog 277 #[.agg (aB h),.int .i64 x] w fun r w'=>r=.returned (.agg (aB { h with pos:=24 }))∧Below w w w':=by
 go_enter func277,ntmps277
 go_wp2_with fail;refine aK w zB fun I=>?_;refine (fD _ _ _).mono ?_;rintro _ N ⟨rfl,F⟩;obtain ⟨J,G,H⟩:=I9 I F (b:=w);(try simp at G);(try simp [go_sem] at H);replace K:=zX H;clear H F I
 go_wp2;exact bodyPost_ret (jY results277 rfl (aQ { h with pos:=24 } tZ)) rfl ⟨rfl,zB⟩
theorem MF (h:Ha) (x:Int) (w:World):Calls prog 277 #[.agg (aB h),.int .i64 x] w fun r w'=>r=.returned (.agg (aB (mY h x)))∧Below w w w':=by
 by_cases I:x=0
 ·rw [show mY h x=h by simp [mY,I]]
  exact Sr h x w I
 by_cases h2:x=2
 ·rw [show mY h x={ h with pos:=25 } by simp [mY,h2]]
  exact Su h x w h2
 have F:(x == 0)=false:=by simpa using I
 have G:(x == 2)=false:=by simpa using h2
 cases H:(h.code == 1) with
 | true =>
  rw [show mY h x=aM 1 0 by simp only [mY,F,G,H];rfl]
  exact Sw h x w F G H
 | false =>
  rw [show mY h x={ h with pos:=24 } by simp only [mY,F,G,H];rfl]
  exact Sz h x w F G H
theorem J3 (c:Ch) (h:Ha) (v1 v2:Value) (lo:Nat) (w:World) (h1:aF w lo v1 c.cells) (h2:aI w lo v2 c.words) (M:(h.code != 2)=true) :
  Calls prog 278 #[.agg (aH c v1 v2),.agg (aB h)] w fun e H=>∃ T s,e=.panicked [{ v:=.iface T s,recovered:=false }]∧Below w w H:=by
 obtain ⟨I,R,J,U,rfl,rfl,F,G,K,L⟩:=BJ h1 h2;clear h1 h2;have N:=F.out;have O:=G.out;go_enter func278,ntmps278;go_wp2;exact ⟨rfl,_,_,rfl,zB⟩
theorem GJ (c:Ch) (h:Ha) (v1 v2:Value) (lo:Nat) (w:World) (h1:aF w lo v1 c.cells) (h2:aI w lo v2 c.words) (T:0≤h.cell) (U:h.cell<c.cells.length) (hk:(h.code != 2)=false) :
  Calls prog 278 #[.agg (aH c v1 v2),.agg (aB h)] w fun r w'=>r=.returned (.agg (aB (aM 2 (cellAt c h.cell).e)))∧Below w w w':=by
 obtain ⟨i,I⟩:∃ i:Nat,h.cell=(i:Int):=⟨h.cell.toNat,by omega⟩;have X:i<c.cells.length:=tO;have Y:(0:Int)≤(i:Int):=tO;have Z:(i:Int)<(c.cells.length:Int):=tO;have a1:=h1.ne h2;obtain ⟨a2,q2,rfl,_⟩:=h2.seg;obtain ⟨g,q1,rfl,O,a0,F,V⟩:=h1.open1 X;have O1:=aA h1;have O2:=aA h2;have a3:g<w.heap.size+1:=tO;have a4:g<w.heap.size+1+1:=tO;have a5:g<w.heap.size+1+1+1:=tO;have aa:g≠w.heap.size:=tO;have ab:g≠w.heap.size+1:=tO
 have ac:g≠w.heap.size+1+1:=tO;have ad:g≠w.heap.size+1+1+1:=tO;have a6:w.heap.size≠g:=tO;have a7:w.heap.size+1≠g:=tO;have a8:w.heap.size+1+1≠g:=tO;have a9:w.heap.size+1+1+1≠g:=tO;have R:Hid (cellAt c h.cell=c.cells.getD i ⟨0,0,0⟩):=by simp [cellAt,Hid,I]
 have c0:=F 0 tO;have L:=F 1 tO;have c2:=F 2 tO;simp only [C3.val,Nat.add_zero] at c0 L c2;have M:=R.out;rw [M];generalize c.cells.getD i ⟨0,0,0⟩=x at *;obtain ⟨s,e,t⟩:=x;simp only at c0 L c2 ⊢;clear R M F h1 h2;go_enter func278,ntmps278;go_wp2_with fail;refine aK w zB fun K=>?_;refine (lv _ _ _).mono ?_;rintro _ w1 ⟨rfl,G⟩;obtain ⟨N,H,J⟩:=sG K G (b:=w);(try simp at H);(try simp [go_sem] at J);replace bX:=pq J;clear J G K
 go_wp2;exact bodyPost_ret (jY results278 rfl (aQ (aM 2 e) tZ)) rfl ⟨rfl,zB⟩
end
end Go.Proofs.YtffhjmepfojhnaaGreat
