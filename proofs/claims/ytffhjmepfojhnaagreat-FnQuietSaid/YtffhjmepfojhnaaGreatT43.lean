/-
  A script that the dice throw; lists lie in memory.
-/
import Derived.Test.YtffhjmepfojhnaaGreatT39
import Derived.Test.YtffhjmepfojhnaaGreatT21
import Derived.Test.YtffhjmepfojhnaaGreatT07
set_option maxRecDepth 100000
set_option maxHeartbeats 4000000
set_option linter.unusedSimpArgs false
set_option linter.unusedVariables false
namespace Go.Proofs.YtffhjmepfojhnaaGreat
open _root_.Go.Proofs.Tryz
open Go.RowKit
attribute [local simp] dz
attribute [local go_sem ↓] dA dO dP jv bK
attribute [local go_sem] iG
theorem QP (B g:Nat) (m:Int) (w:World) (h:DI w B g):Calls prog 27 #[.pointer (some ⟨g,0,none⟩),.int .i64 m] w fun r w'=>(∃ k e,r=.returned (.agg #[.int .i64 k,.int .i64 e])∧((k=2∧e=0)∨(k=1∧e=m)))∧DI w' B g∧Gr g w w':=by
 have T:=h.lt;have L:=h.le;have M:some w.heap.size≠some g:=by simp;omega
 have D:=aA h;clear h;go_enter func27,ntmps27;go_wp2_with fail;refine (mI B g 2 _ NU tO tO).mono ?_;rintro _ N ⟨⟨z,rfl,R,h1⟩,G,F⟩;have H:=F.size;(try (simp at H));have I:=Xb F (b:=w);(try simp [go_sem] at I);replace O:=OH I;clear I;have K:Gr g w N:=gT lY F;have J:=aA G;clear G;by_cases U:z=0
 ·go_wp2
  refine bodyPost_ret (v:=.agg #[.int .i64 2,.int .i64 0]) (by simp [results,results27,go_sem, *]) rfl ⟨⟨2,0,rfl,.inl ⟨rfl,rfl⟩⟩,?_,?_⟩
  ·(repeat (with_reducible first|exact D2.out|exact J.out|exact D3.out|((with_reducible refine DI.setCell ?_ ?_ ?_);rotate_left;(focus (simp;omega));(focus (simp;omega)))|((with_reducible refine DI.box ?_ ?_ ?_);rotate_left;(focus (simp;omega));(focus (simp;omega)))|refine DI.alloc ?_|refine DI.drew ?_))
  ·exact lY
 ·go_wp2
  refine bodyPost_ret (v:=.agg #[.int .i64 1,.int .i64 m]) (by simp [results,results27,go_sem, *]) rfl ⟨⟨1,m,rfl,.inr ⟨rfl,rfl⟩⟩,?_,?_⟩
  ·(repeat (with_reducible first|exact D2.out|exact J.out|exact D3.out|((with_reducible refine DI.setCell ?_ ?_ ?_);rotate_left;(focus (simp;omega));(focus (simp;omega)))|((with_reducible refine DI.box ?_ ?_ ?_);rotate_left;(focus (simp;omega));(focus (simp;omega)))|refine DI.alloc ?_|refine DI.drew ?_))
  ·exact lY
theorem DI.box {w:World} {B g b:Nat} {H:Array Value} (h:DI w B g) (F:B≤b) (G:g≠b):DI (dX w b H) B g:=h.keep (dR G) (Ra (Below.refl _ _) F)
theorem QQ (B g:Nat) (x:Wo) (m:Int) (a b d e:Option Addr) (p q r s:Nat) (w:World) (K:DI w B g) (h3:qX w w d x.hands) (a1:∀ ad,d=some ad→ad.block≠g) (hy:eP x) (a6:0≤m) (a7:m≤999) :
  Calls prog 79 #[.pointer (some ⟨g,0,none⟩),oI x a b d e p q r s,.int .i64 m] w fun r' w'=>(∃ kd who k c,r'=.returned (.agg #[.int .i64 kd,.int .i64 who,.int .i64 k,.int .i64 c])∧bW x who=true∧lW kd who k c=true∧(kd=1∨kd=2∨kd=4))∧DI w' B g∧Gr g w w':=by
 have hl:=K.lt;have a5:=K.le;have a8:some w.heap.size≠some g:=by simp;omega
 have a9:some (w.heap.size+1)≠some g:=by simp;omega
 have h1:=hy.h1;have h6:=hy.h6;have D:=aA K;have H3:=aA h3;clear K h3;go_enter func79,ntmps79;go_wp2_with fail;refine (mI B g (x.hands.length:Int) _ NU tO tO).mono ?_;rintro _ w1 ⟨⟨z,rfl,T,a3⟩,O,I⟩;have R:=I.size;(try (simp at R));have G:=Wz I (b:=w);(try simp [go_sem] at G);replace V:=zX G;clear G;have X:Gr g w w1:=gT lY I;have M:=aA O;clear O;obtain ⟨i,rfl⟩:=Int.eq_ofNat_of_zero_le T;have hi:i<x.hands.length:=tO
 have a4:(i:Int)<(x.hands.length:Int):=tO;have ht:bW x i=true:=by simp [bW,gP,dV];omega
 have L:dV (i:Int) 0 5=true:=by simp [dV];omega
 have a0:eD 1 m=true:=by simp [eD,dV];omega
 obtain ⟨b3,o3,rfl,Z,N⟩:∃ b o,d=some ⟨b,o,none⟩∧b<w.heap.size∧(∀ i j,i<x.hands.length→j<14→w.cell? ⟨b,o+i*14+j,none⟩=some (fO x.hands i j)):=by
  rcases H3.out with h0|h0
  ·omega
  ·exact h0
 have c0:w1.cell? ⟨b3,o3+i*14,none⟩=some (.int .i64 (aJ x (i:Int)).pos):=(vQ X (b:=b3) Z (by have:=a1 _ rfl;simpa using this) _).trans ((N i 0 hi tO).trans zI);clear N;by_cases hp:(aJ x (i:Int)).pos=0
 ·go_wp2_with fail
  refine (QP B g m _ M.out).mono ?_;rintro _ w2 ⟨⟨k,c,rfl,a2⟩,H,F⟩;have J:=F.size;(try (simp at J));have G:=Wz F (b:=w);(first|simp [go_sem,V] at G|simp [go_sem] at G|skip);replace V:=zX G;clear G;have Y:Gr g w w2:=gT lY F;have U:=aA H;clear H;go_wp2;refine bodyPost_ret (v:=.agg #[.int .i64 1,.int .i64 i,.int .i64 k,.int .i64 c]) (by simp [results,results79,go_sem, *]) rfl ⟨⟨1,i,k,c,rfl,ht,?_,.inl rfl⟩,?_,?_⟩
  ·rcases a2 with ⟨rfl,rfl⟩|⟨rfl,rfl⟩
   ·simp [lW,L,eD]
   ·simp [lW,L,a0]
  ·(repeat (with_reducible first|exact U.out|exact M.out|exact D3.out|((with_reducible refine DI.setCell ?_ ?_ ?_);rotate_left;(focus (simp;omega));(focus (simp;omega)))|((with_reducible refine DI.box ?_ ?_ ?_);rotate_left;(focus (simp;omega));(focus (simp;omega)))|refine DI.alloc ?_|refine DI.drew ?_))
  ·exact lY
 ·go_wp2_with fail
  refine (mI B g 12 _ M.out tO tO).mono ?_;rintro _ w2 ⟨⟨z,rfl,T,a3⟩,H,F⟩;have J:=F.size;(try (simp at J));have G:=Wz F (b:=w);(first|simp [go_sem,V] at G|simp [go_sem] at G|skip);replace V:=zX G;clear G;have Y:Gr g w w2:=gT lY F;have U:=aA H;clear H;by_cases hz:z=0
  ·go_wp2
   refine bodyPost_ret (v:=.agg #[.int .i64 4,.int .i64 i,.int .i64 0,.int .i64 0]) (by simp [results,results79,go_sem, *]) rfl ⟨⟨4,i,0,0,rfl,ht,by simp [lW,L,r9],.inr (.inr rfl)⟩,?_,?_⟩
   ·(repeat (with_reducible first|exact U.out|exact M.out|exact D3.out|((with_reducible refine DI.setCell ?_ ?_ ?_);rotate_left;(focus (simp;omega));(focus (simp;omega)))|((with_reducible refine DI.box ?_ ?_ ?_);rotate_left;(focus (simp;omega));(focus (simp;omega)))|refine DI.alloc ?_|refine DI.drew ?_))
   ·exact lY
  ·go_wp2
   refine bodyPost_ret (v:=.agg #[.int .i64 2,.int .i64 i,.int .i64 0,.int .i64 0]) (by simp [results,results79,go_sem, *]) rfl ⟨⟨2,i,0,0,rfl,ht,by simp [lW,L,r9],.inr (.inl rfl)⟩,?_,?_⟩
   ·(repeat (with_reducible first|exact U.out|exact M.out|exact D3.out|((with_reducible refine DI.setCell ?_ ?_ ?_);rotate_left;(focus (simp;omega));(focus (simp;omega)))|((with_reducible refine DI.box ?_ ?_ ?_);rotate_left;(focus (simp;omega));(focus (simp;omega)))|refine DI.alloc ?_|refine DI.drew ?_))
   ·exact lY
end Go.Proofs.YtffhjmepfojhnaaGreat
