/-
  The reference model's calling of a receiver, on hands and channels that are kept whole; lists hold at most 2 ^ 40 elements.
-/
import Derived.Test.YtffhjmepfojhnaaGreatT06
import Derived.Test.YtffhjmepfojhnaaGreatT07
import Derived.Test.YtffhjmepfojhnaaGreatT04
import Derived.Test.YtffhjmepfojhnaaGreatT09
import Derived.Test.YtffhjmepfojhnaaGreatT08
import Derived.Test.YtffhjmepfojhnaaGreatT05
import Derived.Test.YtffhjmepfojhnaaGreatT03
set_option maxRecDepth 100000
set_option maxHeartbeats 4000000
set_option linter.unusedSimpArgs false
set_option linter.unusedVariables false
namespace Go.Proofs.YtffhjmepfojhnaaGreat
open _root_.Go.Proofs.Tryz
section
open Go.RowKit
attribute [local simp] dz
attribute [local go_sem ↓] dA fU dO gW dP gY dW fE bK eO
theorem Jj (c:Ch) (h:Ha) (a b:Option Addr) (p q:Nat) (w:World) (h1:gG w w a c.cells) (z1:a=none→p=0) (h2:gI w w b c.words) (z2:b=none→q=0) (m1:c.cells.length≤1099511627776) (m2:c.words.length≤1099511627776) :
  Calls prog 202 #[.agg (aH c (.slice a c.cells p) (.slice b c.words q)),.agg (aB h)] w fun r w'=>(∃ v1 v2,r=.returned (.tuple #[.agg (aH c v1 v2),.agg (aB (nZ c h).2)])∧aF w' w v1 c.cells∧aI w' w v2 (cZ c h.wait 1).words)∧Below w w w':=by
 have Z:=aA h1;have H2:=aA h2;have Z1:=aA z1;have Z2:=aA z2;clear h1 h2 z1 z2;cases ht:eG c h.wait 1 with
 | true =>
  have e:(nZ c h).2={ h with pos:=8 }:=by simp [nZ,ht]
  rw [e];go_enter func202,ntmps202;go_wp2_with fail;refine aK w zB fun H=>?_;refine (uU c h.wait 1 a b p q _ (aT Z H) Z1.out (aT H2 H) Z2.out m1 m2).mono ?_;rintro _ Y ⟨⟨v1,v2,rfl,K,L⟩,G⟩;obtain ⟨N,J,I⟩:=gZ H G (b:=w);(try simp at J);(try simp [go_sem] at I);replace U:=fP I;clear I G H
  rw [ht]
  try simp at K L
  obtain ⟨R,V,rfl,_⟩:=K.seg;obtain ⟨T,X,rfl,_⟩:=L.seg;go_wp2
  go_region
  go_wp2
  all_goals (refine bodyPost_ret (vR results202 rfl (bN c (.slice R c.cells V) (.slice T (cZ c h.wait 1).words.length X) tY) rfl (aQ { h with pos:=8 } tZ)) rfl ⟨⟨_,_,rfl,aL (lo:=w+1+1+1+1) ?_ tO,aL (lo:=w+1+1+1+1) ?_ tO⟩,zB⟩)
  ·exact zO K K
  ·exact zO L L
 | false =>
  have e:(nZ c h).2=anew h:=by simp [nZ,ht]
  rw [e];go_enter func202,ntmps202;go_wp2_with fail;refine aK w zB fun H=>?_;refine (uU c h.wait 1 a b p q _ (aT Z H) Z1.out (aT H2 H) Z2.out m1 m2).mono ?_;rintro _ Y ⟨⟨v1,v2,rfl,K,L⟩,G⟩;obtain ⟨N,J,I⟩:=gZ H G (b:=w);(try simp at J);(try simp [go_sem] at I);replace U:=fP I;clear I G H
  rw [ht]
  try simp at K L
  obtain ⟨R,V,rfl,_⟩:=K.seg;obtain ⟨T,X,rfl,_⟩:=L.seg;go_wp2_with fail
  go_region_with (go_at_call 207;refine aK w zB fun H=>?_;refine aK Y zB fun bk=>?_;refine (nD _ _).mono ?_;rintro _ w2 ⟨rfl,F⟩;have a0:=bT H F;have O:=F.size;(try simp at O);have I:=And.intro (hQ F (b:=Y)) <| And.intro (hQ F (b:=w+1+1+1)) <| And.intro (hQ F (b:=w+1+1)) <| And.intro (hQ F (b:=w+1)) <| hQ F (b:=w);(first|simp [go_sem,U] at I|simp [go_sem] at I|skip);replace U:=ng I;clear I;have M:=bT bk F;clear F H bk)
  all_goals (go_wp2_with fail)
  all_goals (have p1:=own_below K M;have p2:=own_below L M)
  all_goals (refine bodyPost_ret (vR results202 rfl (bN c (.slice R c.cells V) (.slice T (cZ c h.wait 1).words.length X) tY) rfl (aQ (anew h) tZ)) rfl ⟨⟨_,_,rfl,aL (lo:=w+1+1+1+1) ?_ tO,aL (lo:=w+1+1+1+1) ?_ tO⟩,zB⟩)
  all_goals first|(repeat first|with_reducible exact p1|with_reducible refine xG ?_ _|with_reducible refine wM ?_|((with_reducible first|refine aV ?_ ?_ _|refine fC ?_ ?_);rotate_left;focus first|(refine own_ne K ?_;(try dsimp only);omega)|(refine dN K ?_;(try dsimp only);omega)))|skip
  all_goals first|(repeat first|with_reducible exact p2|with_reducible refine xG ?_ _|with_reducible refine wM ?_|((with_reducible first|refine aV ?_ ?_ _|refine fC ?_ ?_);rotate_left;focus first|(refine own_ne L ?_;(try dsimp only);omega)|(refine dN L ?_;(try dsimp only);omega)))|skip
end
section
open Go.RowKit
attribute [local go_sem ↓] dA dO dP dW bK
theorem Mv {hs:List Ha} {now:Int} {k:Nat} {h:Ha} (G:k<hs.length) (hc:hs.getD k Ha.zero=h) (e:(hs.take k).all (gH now)=true) (F:gH now h=true):(hs.take (k+1)).all (gH now)=true:=by
 rw [lu _ k Ha.zero G,hc,List.all_append,e];simp [F]
theorem P9 {hs:List Ha} {now:Int} {k:Nat} {h:Ha} (F:k<hs.length) (hc:hs.getD k Ha.zero=h) (e:gH now h=false):hs.all (gH now)=false:=by
 rw [List.all_eq_false];refine ⟨hs[k],List.getElem_mem F,?_⟩;rw [← hc] at e;simpa [List.getD,List.getElem?_eq_getElem F] using e
def rR (hs:List Ha) (now:Int):Bool:=decide (1≤hs.length) && (decide (hs.length≤6) && hs.all (gH now))
theorem Sn {now:Int} {h:Ha} (e:aU h=true):Value.bool (decide (now<h.beg))=.bool (!gH now h):=by
 by_cases h2:now<h.beg <;> simp [gH,e,h2] <;> omega
theorem Sq {now:Int} {h:Ha} (e:aU h=false):Value.bool true=.bool (!gH now h):=by simp [gH,e]
theorem Gt (hs:List Ha) (now:Int) (B:Nat) (d:Option Addr) (r:Nat) (w:World) (x6:w.cell? ⟨B,6,none⟩=some (.slice d hs.length r)) (x8:w.cell? ⟨B,8,none⟩=some (.int .i64 now)) (lB:B<w.heap.size) (h3:qX w w d hs) (m:hs.length≤1099511627776) :
  Calls prog 99 #[.pointer (some ⟨B,0,none⟩)] w fun r w'=>r=.returned (.bool (rR hs now))∧Below w w w':=by
 by_cases i2:1≤hs.length
 case neg =>
  have g1:decide ((hs.length:Int)<1)=true:=by simp;omega
  have N:rR hs now=false:=by simp [rR];omega
  rw [N];clear N i2;go_enter func99,ntmps99;go_wp2;go_ret;exact ⟨rfl,zB⟩
 have g1:decide ((hs.length:Int)<1)=false:=by simp;omega
 by_cases i3:hs.length≤6
 case neg =>
  have g2:decide (6<(hs.length:Int))=true:=by simp;omega
  have N:rR hs now=false:=by simp [rR];omega
  rw [N];clear N i3;go_enter func99,ntmps99;go_wp2;go_ret;exact ⟨rfl,zB⟩
 have g2:decide (6<(hs.length:Int))=false:=by simp;omega
 have N:rR hs now=hs.all (gH now):=by simp [rR,i2,i3]
 rw [N];clear N;obtain ⟨Z,o3,rfl,a1,a2⟩:∃ b o,d=some ⟨b,o,none⟩∧b<w.heap.size∧Hid (∀ i j,i<hs.length→j<14→w.cell? ⟨b,o+i*14+j,none⟩=some (fO hs i j)):=by
  rcases h3 with h0|h0
  ·exact absurd h0 tO
  ·exact h0
 have I2:=aA i2;clear h3 i2;go_enter func99,ntmps99;go_wp2_with fail;go_loopw [24] (fun i wr=>∃ k:Nat,k≤hs.length∧i=.int .i64 k∧Hid ((hs.take k).all (gH now)=true)∧Below w w wr) (fun i _=>hs.length - (intOf i).toNat)
 case atStart=>exact ⟨0,Nat.zero_le _,rfl,rfl,zB⟩
 case round =>
  obtain ⟨k,hk,rfl,U,hB⟩:=hrel;by_cases V:k<hs.length
  ·have cc:=fun j hj=>a2.out k j V hj
   simp only [fO] at cc;generalize a3:hs.getD k Ha.zero=I at cc;have HC:=aA a3;clear a3;have a5:∀ W:World,hp W Z=hp w Z→(nY (.pointer (some ⟨Z,o3+k*14,none⟩))).run prog W=.ok (.agg (aB I)) W:=fun W e=>lJ I fun j hj=>by rw [← cc j hj];exact World.cell?_of_block e
   clear cc;have z3:hp wr Z=hp w Z:=hB.block Z a1;have y8:=(hB.cell (p:=⟨B,8,none⟩) lB).trans x8;have a7:(0:Int)≤(k:Int):=tO;have a8:(k:Int)<(hs.length:Int):=tO;go_wp2_with fail;generalize X:World.alloc wr _=Y;have a4:hp Y wr=some (.cells (aB I) 49):=by rw [← X];exact heap_alloc_new _ _
   have T:Below wr wr Y:=by rw [← X];exact bL _ _
   clear X;have y5:=(T.cell (p:=⟨B,8,none⟩) (by have:=hB.size;simp;omega)).trans y8;clear y8;have y8:=y5;clear y5;have a9:B<Y.heap.size:=by have:=hB.size;have:=T.size;omega
   clear a5 z3 a7 a8 a2 a1;refine lh [[],[0],[0,1],[0,1,2],[0,1,2,3],[0,1,2,3,4],[0,1,2,3],[0,1,2,3,6],[0,1,2,3,6,7],[0,1,2,3,6,7,8],qB [8,9],qB [8,9,10]] [28,29,30,31,32,33,34,35,36,37,38,39] (fun l s wx=>(Below Y Y wx)∧(l 0=true→s 28=.agg (aB I))∧(l 1=true→s 29=.bool (aU I))∧(l 2=true→s 30=.bool (!aU I))∧(l 3=true→s 31=.bool (!aU I))∧(l 4=true→aU I=true→s 32=.pointer (some ⟨wr,11,none⟩))∧(l 5=true→aU I=true→s 33=.int .i64 I.beg)∧(l 6=true→aU I=true→s 34=.pointer (some ⟨B,0,none⟩))∧(l 7=true→aU I=true→s 35=.pointer (some ⟨B,0,none⟩))∧(l 8=true→aU I=true→s 36=.pointer (some ⟨B,8,none⟩))∧(l 9=true→aU I=true→s 37=.int .i64 now)∧(l 10=true→aU I=true→s 38=.bool (decide (now<I.beg)))∧(l 11=true→s 39=.bool (!gH now I))) (fun s=>⟨(Below.refl _ _).drew,nB,nB,nB,nB,nB,nB,nB,nB,nB,nB,nB,nB⟩) ?_ ?_
   refine ⟨?_,?_,?_,?_,?_,?_,?_,?_,?_,?_,?_,?_,trivial⟩;iterate 12 (intro l s wx hl L O F K J;rotate_left)
   ·intro l s w6 M F
    have ec:=(jC (jD F)) (M 11 rfl);have a6:Below Y Y w6:=F.1;simp only [ec];clear ec F M;have a0:Below w w w6:=bT hB (T.trans (a6.mono T.size));cases G:gH now I with
    | true =>
     go_wp2;go_roundw
     case rel=>exact ⟨k+1,by omega,by go_num,Mv V HC.out U.out G,a0⟩
     case measure=>simp [intOf];omega
    | false =>
     go_wp2;go_ret;exact ⟨bQ (P9 V HC.out G).symm,a0⟩
   ·have z:=iC a4 F.out.1
    go_simp;refine J.out (upd s 28 (.agg (aB I))) _ _ gM (kA (kX (fun _=>rfl) id) F.out)
   ·have N:=(F.out.2.1 (L 0 rfl))
    go_simp
    go_at_call 102
    refine (jN I _).mono ?_;rintro _ wy ⟨rfl,hE⟩;refine J.out (upd s 29 (.bool (aU I))) _ _ (by simp [aX,N] <;> rfl) (kX (bT F.out.1 hE) (kA (kX (fun _=>rfl) (kX (nU (O 2 rfl)) (kX (nU (O 3 rfl)) (kX (nU (O 4 rfl)) (kX (nU (O 5 rfl)) (kX (nU (O 6 rfl)) (kX (nU (O 7 rfl)) (kX (nU (O 8 rfl)) (kX (nU (O 9 rfl)) (kX (nU (O 10 rfl)) (fun _=>nU (O 11 rfl))))))))))))) F.out)
   ·have e1:=(F.out.2.2.1 (L 1 rfl))
    go_simp;refine J.out (upd s 30 (.bool (!aU I))) _ _ pQ (kB (kA (kX (fun _=>rfl) id)) F.out)
   ·have e2:=(F.out.2.2.2.1 (L 2 rfl))
    go_simp;refine J.out (upd s 31 (.bool (!aU I))) _ _ wR (kC (kX (fun _=>rfl) id) F.out)
   ·have H:=(F.out.2.2.2.2.1 (L 3 rfl))
    cases G:(aU I) with
    | true =>
     rw [G] at H;go_simp;refine J.out (upd s 32 (.pointer (some ⟨wr,11,none⟩))) _ _ kV (kC (kA (kX (fun _ _=>rfl) id)) F.out)
    | false =>
     rw [G] at H;go_simp;refine J.out (upd s 32 (undef)) _ _ kV (kC (kA (kX (fun _ h=>Bool.noConfusion (h.symm.trans G)) id)) F.out)
   ·have H:=(F.out.2.2.2.2.1 (L 3 rfl))
    cases G:(aU I) with
    | true =>
     rw [G] at H;have e4:=((jC F.out).2.1 (L 4 rfl)) G;have z:=(bO (iC a4 F.out.1)).1 11;go_simp;refine J.out (upd s 33 (.int .i64 I.beg)) _ _ (by simp [aX,H,e4] <;> rfl) (kC (kB (kX (fun _ _=>rfl) id)) F.out)
    | false =>
     rw [G] at H;go_simp;refine J.out (upd s 33 (undef)) _ _ kV (kC (kB (kX (fun _ h=>Bool.noConfusion (h.symm.trans G)) id)) F.out)
   ·have H:=(F.out.2.2.2.2.1 (L 3 rfl))
    cases G:(aU I) with
    | true =>
     rw [G] at H;go_simp;refine J.out (upd s 34 (.pointer (some ⟨B,0,none⟩))) _ _ kV (kC (kB (kA (kX (fun _ _=>rfl) id))) F.out)
    | false =>
     rw [G] at H;go_simp;refine J.out (upd s 34 (undef)) _ _ kV (kC (kB (kA (kX (fun _ h=>Bool.noConfusion (h.symm.trans G)) id))) F.out)
   ·have H:=(F.out.2.2.2.2.1 (L 3 rfl))
    cases G:(aU I) with
    | true =>
     rw [G] at H;have e6:=((jC F.out).2.2.2.1 (L 6 rfl)) G;go_simp;refine J.out (upd s 35 (.pointer (some ⟨B,0,none⟩))) _ _ (by simp [aX,H,e6] <;> rfl) (kD (kX (fun _ _=>rfl) id) F.out)
    | false =>
     rw [G] at H;go_simp;refine J.out (upd s 35 (undef)) _ _ kV (kD (kX (fun _ h=>Bool.noConfusion (h.symm.trans G)) id) F.out)
   ·have H:=(F.out.2.2.2.2.1 (L 3 rfl))
    cases G:(aU I) with
    | true =>
     rw [G] at H;have e7:=((jD F.out).1 (L 7 rfl)) G;go_simp;refine J.out (upd s 36 (.pointer (some ⟨B,8,none⟩))) _ _ (by simp [aX,H,e7] <;> rfl) (kD (kA (kX (fun _ _=>rfl) id)) F.out)
    | false =>
     rw [G] at H;go_simp;refine J.out (upd s 36 (undef)) _ _ kV (kD (kA (kX (fun _ h=>Bool.noConfusion (h.symm.trans G)) id)) F.out)
   ·have H:=(F.out.2.2.2.2.1 (L 3 rfl))
    cases G:(aU I) with
    | true =>
     rw [G] at H;have e8:=((jD F.out).2.1 (L 8 rfl)) G;have z:=((F.out.1).cell (p:=⟨B,8,none⟩) tO).trans y8;go_simp;refine J.out (upd s 37 (.int .i64 now)) _ _ (by simp [aX,H,e8] <;> rfl) (kD (kB (kX (fun _ _=>rfl) id)) F.out)
    | false =>
     rw [G] at H;go_simp;refine J.out (upd s 37 (undef)) _ _ kV (kD (kB (kX (fun _ h=>Bool.noConfusion (h.symm.trans G)) id)) F.out)
   ·have H:=(F.out.2.2.2.2.1 (L 3 rfl))
    cases G:(aU I) with
    | true =>
     rw [G] at H;have e5:=((jC F.out).2.2.1 (L 5 rfl)) G;have e9:=((jD F.out).2.2.1 (L 9 rfl)) G;go_simp;refine J.out (upd s 38 (.bool (decide (now<I.beg)))) _ _ (by simp [aX,H,e5,e9] <;> rfl) (kD (kB (kA (kX (fun _ _=>rfl) id))) F.out)
    | false =>
     rw [G] at H;go_simp;refine J.out (upd s 38 (undef)) _ _ kV (kD (kB (kA (kX (fun _ h=>Bool.noConfusion (h.symm.trans G)) id))) F.out)
   ·have H:=(F.out.2.2.2.2.1 (L 3 rfl))
    have R:=((jD F.out).2.2.2.1 (L 10 rfl));cases G:(aU I) with
    | true =>
     rw [G] at H;replace R:=R G;go_simp;refine J.out (upd s 39 (.bool (decide (now<I.beg)))) _ _ (by simp [aX,H,R] <;> rfl) (kD (kC (fun _=>fun _=>by rw [show (upd s 39 (.bool (decide (now<I.beg)))) 39=.bool (decide (now<I.beg)) from rfl,Sn G])) F.out)
    | false =>
     clear R;rw [G] at H;go_simp;refine J.out (upd s 39 (.bool true)) _ _ kV (kD (kC (fun _=>fun _=>by rw [show (upd s 39 (.bool true)) 39=.bool true from rfl,Sq G])) F.out)
  ·have:k=hs.length:=by omega
   subst this;have h1:=U.out;rw [List.take_length] at h1;go_wp2;go_ret;exact ⟨bQ h1.symm,hB⟩
end
section
open Go.RowKit
theorem Jk {ds:List De} {n:Nat} {now:Int} {k:Nat} {h:De} (G:k<ds.length) (hc:ds.getD k De.zero=h) (e:(ds.take k).all (jQ n now)=true) (F:jQ n now h=true):(ds.take (k+1)).all (jQ n now)=true:=by
 rw [lu _ k De.zero G,hc,List.all_append,e];simp [F]
theorem Mw {ds:List De} {n:Nat} {now:Int} {k:Nat} {h:De} (F:k<ds.length) (hc:ds.getD k De.zero=h) (e:jQ n now h=false):ds.all (jQ n now)=false:=by
 rw [List.all_eq_false];refine ⟨ds[k],List.getElem_mem F,?_⟩;rw [← hc] at e;simpa [List.getD,List.getElem?_eq_getElem F] using e
def wo (ds:List De) (n:Nat) (now:Int):Bool:=decide (ds.length≤1000) && ds.all (jQ n now)
theorem KS {a:Bool} {b:Bool} (e:a=true):Value.bool (!b)=.bool (!(a && b)):=by rw [e];rfl
theorem KT {a:Bool} {b:Bool} (e:a=false):Value.bool true=.bool (!(a && b)):=by rw [e];rfl
theorem Gu (ds:List De) (n:Nat) (now:Int) (B:Nat) (d e:Option Addr) (r s:Nat) (w:World) (x6:w.cell? ⟨B,6,none⟩=some (.slice d n r)) (x7:w.cell? ⟨B,7,none⟩=some (.slice e ds.length s)) (x8:w.cell? ⟨B,8,none⟩=some (.int .i64 now)) (lB:B<w.heap.size) (h4:uh w w e ds) (m:ds.length≤1099511627776) (mn:n≤1099511627776) :
  Calls prog 100 #[.pointer (some ⟨B,0,none⟩)] w fun r w'=>r=.returned (.bool (wo ds n now))∧Below w w w':=by
 by_cases i3:ds.length≤1000
 case neg =>
  have g2:decide (1000<(ds.length:Int))=true:=by simp;omega
  have e0:wo ds n now=false:=by simp [wo];omega
  rw [e0];clear e0 i3;go_enter func100,ntmps100;go_wp2;go_ret;exact ⟨rfl,zB⟩
 have g2:decide (1000<(ds.length:Int))=false:=by simp;omega
 have e0:wo ds n now=ds.all (jQ n now):=by simp [wo,i3]
 rw [e0];clear e0;have H4:=aA h4;clear h4;go_enter func100,ntmps100;go_wp2_with fail;go_loopw [16] (fun i wr=>∃ k:Nat,k≤ds.length∧i=.int .i64 k∧Hid ((ds.take k).all (jQ n now)=true)∧Below w w wr) (fun i _=>ds.length - (intOf i).toNat)
 case atStart=>exact ⟨0,Nat.zero_le _,rfl,rfl,zB⟩
 case round =>
  obtain ⟨k,hk,rfl,a4,hB⟩:=hrel;by_cases a5:k<ds.length
  ·obtain h0|⟨b4,o4,rfl,a8,a9⟩:=H4.out
   ·omega
   have cc:=fun j hj=>(hB.cell (p:=⟨b4,o4+k*7+j,none⟩) a8).trans (a9 k j a5 hj)
   have c0:=cc 0 tO;have c1:=cc 1 tO;have c2:=cc 2 tO;have c3:=cc 3 tO;have c4:=cc 4 tO;have c5:=cc 5 tO;have c6:=cc 6 tO;clear cc a9;simp only [sQ] at c0 c1 c2 c3 c4 c5 c6;generalize aa:ds.getD k De.zero=U at c0 c1 c2 c3 c4 c5 c6;simp [jk,Array.getD] at c0 c1 c2 c3 c4 c5 c6;have HC:=aA aa;clear aa;have y6:=(hB.cell (p:=⟨B,6,none⟩) lB).trans x6;have y8:=(hB.cell (p:=⟨B,8,none⟩) lB).trans x8;have b5:(0:Int)≤(k:Int):=tO
   have b6:(k:Int)<(ds.length:Int):=tO;go_wp2_with fail;generalize a6:World.alloc wr _=w5;have X:hp w5 wr=some (.cells #[U.task,U.code,U.elem,U.beg,U.fin,U.reply,U.out] 44):=by rw [← a6];exact heap_alloc_new _ _
   have Y:Below wr wr w5:=by rw [← a6];exact bL _ _
   clear a6;have b7:=hB.size;replace y6:=(Y.cell (p:=⟨B,6,none⟩) dQ).trans y6;replace y8:=(Y.cell (p:=⟨B,8,none⟩) dQ).trans y8;have b8:B<w5.heap.size:=by have:=Y.size;omega
   obtain ⟨I,ab⟩:∃ q,Hid (gP n U.task=q):=⟨_,rfl⟩;obtain ⟨N,ac⟩:∃ q,Hid (dV U.beg 0 now=q):=⟨_,rfl⟩;obtain ⟨T,ad⟩:∃ q,Hid (dV U.fin 0 now=q):=⟨_,rfl⟩;obtain ⟨V,ae⟩:∃ q,Hid (jT U.code U.elem U.reply=q):=⟨_,rfl⟩;obtain ⟨q4,af⟩:∃ q,Hid (dV U.out 0 999=q):=⟨_,rfl⟩;have hQ:jQ n now U=((((I && N) && T) && V) && q4):=by simp only [jQ,ab.out,ac.out,ad.out,ae.out,af.out];cases I <;> cases N <;> cases T <;> cases V <;> cases q4 <;> rfl
   have HQ:=aA hQ;clear hQ c0 c1 c2 c3 c4 c5 c6 b5 b6 a8;refine lh [[],[],[1],[0,1,2],[0,1,2,3],[0,1,2,3,4],[0,1,2,3,4,5],[0,1,2,3,4,5,6],[0,1,2,3,4,5],[0,1,2,3,4,5,8],[0,1,2,3,4,5,8,9],[0,1,2,3,4,5,8,9,10],qB [8,9,10,11],qB [8,9,10,11,12],qB [8,9,10,11,12,13],qB [8,9,10,11,12,13,14],qC [],qC [16],qC [],qC [18],qC [18,19],qC [18,19,20],qC [16,17,18,19,20,21],qC [16,17,18,19,20,21,22],qD [],qD [24],qD [24,25],qD [24,25,26],qD [24,25],qD [24,25,28],qD [24,25,26,27,28,29],qD [24,25,26,27,28,29,30],qE [],qE [32],qE [32,33],qE [32,33,34],qE [32,33,34,35],qE [32,33,34,35,36],qE [32,33,34,35,36,37]] [20,21,22,23,24,25,26,27,28,29,30,31,32,33,34,35,36,37,38,39,40,41,42,43,44,45,46,47,48,49,50,51,52,53,54,55,56,57,58] (fun l s wx=>(Below w5 w5 wx)∧(l 0=true→s 20=.pointer (some ⟨B,0,none⟩))∧(l 1=true→s 21=.pointer (some ⟨wr,0,none⟩))∧(l 2=true→s 22=.int .i64 U.task)∧(l 3=true→s 23=.bool I)∧(l 4=true→s 24=.bool (!I))∧(l 5=true→s 25=.bool (!I))∧(l 6=true→I=true→s 26=.pointer (some ⟨wr,3,none⟩))∧(l 7=true→I=true→s 27=.int .i64 U.beg)∧(l 8=true→I=true→s 28=.pointer (some ⟨B,0,none⟩))∧(l 9=true→I=true→s 29=.pointer (some ⟨B,0,none⟩))∧(l 10=true→I=true→s 30=.pointer (some ⟨B,8,none⟩))∧(l 11=true→I=true→s 31=.int .i64 now)∧(l 12=true→I=true→s 32=.bool N)∧(l 13=true→I=true→s 33=.bool (!N))∧(l 14=true→s 34=.bool (!(I && N)))∧(l 15=true→s 35=.bool (!(I && N)))∧(l 16=true→(I && N)=true→s 36=.pointer (some ⟨wr,4,none⟩))∧(l 17=true→(I && N)=true→s 37=.int .i64 U.fin)∧(l 18=true→(I && N)=true→s 38=.pointer (some ⟨B,0,none⟩))∧(l 19=true→(I && N)=true→s 39=.pointer (some ⟨B,0,none⟩))∧(l 20=true→(I && N)=true→s 40=.pointer (some ⟨B,8,none⟩))∧(l 21=true→(I && N)=true→s 41=.int .i64 now)∧(l 22=true→(I && N)=true→s 42=.bool T)∧(l 23=true→(I && N)=true→s 43=.bool (!T))∧(l 24=true→s 44=.bool (!((I && N) && T)))∧(l 25=true→s 45=.bool (!((I && N) && T)))∧(l 26=true→((I && N) && T)=true→s 46=.pointer (some ⟨wr,1,none⟩))∧(l 27=true→((I && N) && T)=true→s 47=.agg #[U.code,U.elem])∧(l 28=true→((I && N) && T)=true→s 48=.pointer (some ⟨wr,5,none⟩))∧(l 29=true→((I && N) && T)=true→s 49=.int .i64 U.reply)∧(l 30=true→((I && N) && T)=true→s 50=.bool V)∧(l 31=true→((I && N) && T)=true→s 51=.bool (!V))∧(l 32=true→s 52=.bool (!(((I && N) && T) && V)))∧(l 33=true→s 53=.bool (!(((I && N) && T) && V)))∧(l 34=true→(((I && N) && T) && V)=true→s 54=.pointer (some ⟨wr,6,none⟩))∧(l 35=true→(((I && N) && T) && V)=true→s 55=.int .i64 U.out)∧(l 36=true→(((I && N) && T) && V)=true→s 56=.bool q4)∧(l 37=true→(((I && N) && T) && V)=true→s 57=.bool (!q4))∧(l 38=true→s 58=.bool (!((((I && N) && T) && V) && q4)))) (fun s=>⟨(Below.refl _ _).drew,nB,nB,nB,nB,nB,nB,nB,nB,nB,nB,nB,nB,nB,nB,nB,nB,nB,nB,nB,nB,nB,nB,nB,nB,nB,nB,nB,nB,nB,nB,nB,nB,nB,nB,nB,nB,nB,nB,nB⟩) ?_ ?_
   refine ⟨?_,?_,?_,?_,?_,?_,?_,?_,?_,?_,?_,?_,?_,?_,?_,?_,?_,?_,?_,?_,?_,?_,?_,?_,?_,?_,?_,?_,?_,?_,?_,?_,?_,?_,?_,?_,?_,?_,?_,trivial⟩;iterate 39 (intro l s wx hl M hn G K L;rotate_left)
   ·intro l s w6 Z G
    have ec:=(jC (jE (jE G))).2.2.2 (Z 38 rfl);have b3:Below w5 w5 w6:=G.1;simp only [ec];clear ec G Z;have a7:Below w w w6:=bT hB (Y.trans (b3.mono Y.size));cases F:((((I && N) && T) && V) && q4) with
    | true =>
     go_wp2;go_roundw
     case rel=>exact ⟨k+1,by omega,by go_num,Jk a5 HC.out a4.out (HQ.out.trans F),a7⟩
     case measure=>simp [intOf];omega
    | false =>
     go_wp2;go_ret;exact ⟨bQ (Mw a5 HC.out (HQ.out.trans F)).symm,a7⟩
   ·go_simp
    refine L.out (upd s 20 (.pointer (some ⟨B,0,none⟩))) _ _ gM (kA (kX (fun _=>rfl) id) G.out)
   ·go_simp
    refine L.out (upd s 21 (.pointer (some ⟨wr,0,none⟩))) _ _ gM (kB (kX (fun _=>rfl) id) G.out)
   ·have e1:=(G.out.2.2.1 (M 1 rfl))
    have z:=(bO (iC X G.out.1)).1 0;go_simp;refine L.out (upd s 22 (.int .i64 U.task)) _ _ pQ (kB (kA (kX (fun _=>rfl) id)) G.out)
   ·have e0:=(G.out.2.1 (M 0 rfl))
    have e2:=(G.out.2.2.2.1 (M 2 rfl));have z:=((G.out.1).cell (p:=⟨B,6,none⟩) tO).trans y6;go_simp
    go_at_call 50
    refine (Jd n U.task B d r _ z mn).mono ?_;rintro _ _ ⟨rfl,rfl⟩;rw [ab.out];refine L.out (upd s 23 (.bool I)) _ _ (by simp [aX,e0,e2] <;> rfl) (kC (kX (fun _=>rfl) id) G.out)
   ·have e3:=(G.out.2.2.2.2.1 (M 3 rfl))
    go_simp;refine L.out (upd s 24 (.bool (!I))) _ _ yh (kC (kA (kX (fun _=>rfl) id)) G.out)
   ·have e4:=((jC G.out).2.1 (M 4 rfl))
    go_simp;refine L.out (upd s 25 (.bool (!I))) _ _ zJ (kC (kB (kX (fun _=>rfl) id)) G.out)
   ·have R:=((jC G.out).2.2.1 (M 5 rfl))
    cases F:(I) with
    | true =>
     rw [F] at R;go_simp;refine L.out (upd s 26 (.pointer (some ⟨wr,3,none⟩))) _ _ su (kC (kB (kA (kX (fun _ _=>rfl) id))) G.out)
    | false =>
     rw [F] at R;go_simp;refine L.out (upd s 26 (undef)) _ _ su (kC (kB (kA (kX (fun _ h=>Bool.noConfusion (h.symm.trans F)) id))) G.out)
   ·have R:=((jC G.out).2.2.1 (M 5 rfl))
    cases F:(I) with
    | true =>
     rw [F] at R;have e6:=((jC G.out).2.2.2.1 (M 6 rfl)) F;have z:=(bO (iC X G.out.1)).1 3;go_simp;refine L.out (upd s 27 (.int .i64 U.beg)) _ _ (by simp [aX,R,e6] <;> rfl) (kD (kX (fun _ _=>rfl) id) G.out)
    | false =>
     rw [F] at R;go_simp;refine L.out (upd s 27 (undef)) _ _ su (kD (kX (fun _ h=>Bool.noConfusion (h.symm.trans F)) id) G.out)
   ·have R:=((jC G.out).2.2.1 (M 5 rfl))
    cases F:(I) with
    | true =>
     rw [F] at R;go_simp;refine L.out (upd s 28 (.pointer (some ⟨B,0,none⟩))) _ _ su (kD (kA (kX (fun _ _=>rfl) id)) G.out)
    | false =>
     rw [F] at R;go_simp;refine L.out (upd s 28 (undef)) _ _ su (kD (kA (kX (fun _ h=>Bool.noConfusion (h.symm.trans F)) id)) G.out)
   ·have R:=((jC G.out).2.2.1 (M 5 rfl))
    cases F:(I) with
    | true =>
     rw [F] at R;have e8:=((jD G.out).2.1 (M 8 rfl)) F;go_simp;refine L.out (upd s 29 (.pointer (some ⟨B,0,none⟩))) _ _ (by simp [aX,R,e8] <;> rfl) (kD (kB (kX (fun _ _=>rfl) id)) G.out)
    | false =>
     rw [F] at R;go_simp;refine L.out (upd s 29 (undef)) _ _ su (kD (kB (kX (fun _ h=>Bool.noConfusion (h.symm.trans F)) id)) G.out)
   ·have R:=((jC G.out).2.2.1 (M 5 rfl))
    cases F:(I) with
    | true =>
     rw [F] at R;have e9:=((jD G.out).2.2.1 (M 9 rfl)) F;go_simp;refine L.out (upd s 30 (.pointer (some ⟨B,8,none⟩))) _ _ (by simp [aX,R,e9] <;> rfl) (kD (kB (kA (kX (fun _ _=>rfl) id))) G.out)
    | false =>
     rw [F] at R;go_simp;refine L.out (upd s 30 (undef)) _ _ su (kD (kB (kA (kX (fun _ h=>Bool.noConfusion (h.symm.trans F)) id))) G.out)
   ·have R:=((jC G.out).2.2.1 (M 5 rfl))
    cases F:(I) with
    | true =>
     rw [F] at R;have ag:=((jD G.out).2.2.2.1 (M 10 rfl)) F;have z:=((G.out.1).cell (p:=⟨B,8,none⟩) tO).trans y8;go_simp;refine L.out (upd s 31 (.int .i64 now)) _ _ (by simp [aX,R,ag] <;> rfl) (kD (kC (kX (fun _ _=>rfl) id)) G.out)
    | false =>
     rw [F] at R;go_simp;refine L.out (upd s 31 (undef)) _ _ su (kD (kC (kX (fun _ h=>Bool.noConfusion (h.symm.trans F)) id)) G.out)
   ·have R:=((jC G.out).2.2.1 (M 5 rfl))
    cases F:(I) with
    | true =>
     rw [F] at R;have e7:=((jD G.out).1 (M 7 rfl)) F;have ah:=((jC (jD G.out)).1 (M 11 rfl)) F;go_simp
     go_at_call 45
     refine (jh U.beg now _).mono ?_;rintro _ _ ⟨rfl,rfl⟩;rw [ac.out];refine L.out (upd s 32 (.bool N)) _ _ (by simp [aX,R,e7,ah] <;> rfl) (kD (kC (kA (kX (fun _ _=>rfl) id))) G.out)
    | false =>
     rw [F] at R;go_simp;refine L.out (upd s 32 (undef)) _ _ su (kD (kC (kA (kX (fun _ h=>Bool.noConfusion (h.symm.trans F)) id))) G.out)
   ·have R:=((jC G.out).2.2.1 (M 5 rfl))
    cases F:(I) with
    | true =>
     rw [F] at R;have ai:=((jC (jD G.out)).2.1 (M 12 rfl)) F;go_simp;refine L.out (upd s 33 (.bool (!N))) _ _ (by simp [aX,R,ai] <;> rfl) (kD (kC (kB (kX (fun _ _=>rfl) id))) G.out)
    | false =>
     rw [F] at R;go_simp;refine L.out (upd s 33 (undef)) _ _ su (kD (kC (kB (kX (fun _ h=>Bool.noConfusion (h.symm.trans F)) id))) G.out)
   ·have R:=((jC G.out).2.2.1 (M 5 rfl))
    have a0:=((jC (jD G.out)).2.2.1 (M 13 rfl));cases F:(I) with
    | true =>
     rw [F] at R;replace a0:=a0 F;go_simp;refine L.out (upd s 34 (.bool (!N))) _ _ (by simp [aX,R,a0] <;> rfl) (kD (kC (kB (kA (kX (fun _=>by rw [show (upd s 34 (.bool (!N))) 34=.bool (!N) from rfl];exact KS F) id)))) G.out)
    | false =>
     clear a0;rw [F] at R;go_simp;refine L.out (upd s 34 (.bool true)) _ _ su (kD (kC (kB (kA (kX (fun _=>by rw [show (upd s 34 (.bool true)) 34=.bool true from rfl];exact KT F) id)))) G.out)
   ·have aj:=((jC (jD G.out)).2.2.2.1 (M 14 rfl))
    go_simp;refine L.out (upd s 35 (.bool (!(I && N)))) _ _ (by simp [aX,aj] <;> rfl) (kE (kX (fun _=>rfl) id) G.out)
   ·have H:=((jE G.out).1 (M 15 rfl))
    cases F:((I && N)) with
    | true =>
     rw [F] at H;go_simp;refine L.out (upd s 36 (.pointer (some ⟨wr,4,none⟩))) _ _ kV (kE (kA (kX (fun _ _=>rfl) id)) G.out)
    | false =>
     rw [F] at H;go_simp;refine L.out (upd s 36 (undef)) _ _ kV (kE (kA (kX (fun _ h=>Bool.noConfusion (h.symm.trans F)) id)) G.out)
   ·have H:=((jE G.out).1 (M 15 rfl))
    cases F:((I && N)) with
    | true =>
     rw [F] at H;have ak:=((jE G.out).2.1 (M 16 rfl)) F;have z:=(bO (iC X G.out.1)).1 4;go_simp;refine L.out (upd s 37 (.int .i64 U.fin)) _ _ (by simp [aX,H,ak] <;> rfl) (kE (kB (kX (fun _ _=>rfl) id)) G.out)
    | false =>
     rw [F] at H;go_simp;refine L.out (upd s 37 (undef)) _ _ kV (kE (kB (kX (fun _ h=>Bool.noConfusion (h.symm.trans F)) id)) G.out)
   ·have H:=((jE G.out).1 (M 15 rfl))
    cases F:((I && N)) with
    | true =>
     rw [F] at H;go_simp;refine L.out (upd s 38 (.pointer (some ⟨B,0,none⟩))) _ _ kV (kE (kB (kA (kX (fun _ _=>rfl) id))) G.out)
    | false =>
     rw [F] at H;go_simp;refine L.out (upd s 38 (undef)) _ _ kV (kE (kB (kA (kX (fun _ h=>Bool.noConfusion (h.symm.trans F)) id))) G.out)
   ·have H:=((jE G.out).1 (M 15 rfl))
    cases F:((I && N)) with
    | true =>
     rw [F] at H;have am:=((jE G.out).2.2.2.1 (M 18 rfl)) F;go_simp;refine L.out (upd s 39 (.pointer (some ⟨B,0,none⟩))) _ _ (by simp [aX,H,am] <;> rfl) (kE (kC (kX (fun _ _=>rfl) id)) G.out)
    | false =>
     rw [F] at H;go_simp;refine L.out (upd s 39 (undef)) _ _ kV (kE (kC (kX (fun _ h=>Bool.noConfusion (h.symm.trans F)) id)) G.out)
   ·have H:=((jE G.out).1 (M 15 rfl))
    cases F:((I && N)) with
    | true =>
     rw [F] at H;have an:=((jC (jE G.out)).1 (M 19 rfl)) F;go_simp;refine L.out (upd s 40 (.pointer (some ⟨B,8,none⟩))) _ _ (by simp [aX,H,an] <;> rfl) (kE (kC (kA (kX (fun _ _=>rfl) id))) G.out)
    | false =>
     rw [F] at H;go_simp;refine L.out (upd s 40 (undef)) _ _ kV (kE (kC (kA (kX (fun _ h=>Bool.noConfusion (h.symm.trans F)) id))) G.out)
   ·have H:=((jE G.out).1 (M 15 rfl))
    cases F:((I && N)) with
    | true =>
     rw [F] at H;have ao:=((jC (jE G.out)).2.1 (M 20 rfl)) F;have z:=((G.out.1).cell (p:=⟨B,8,none⟩) tO).trans y8;go_simp;refine L.out (upd s 41 (.int .i64 now)) _ _ (by simp [aX,H,ao] <;> rfl) (kE (kC (kB (kX (fun _ _=>rfl) id))) G.out)
    | false =>
     rw [F] at H;go_simp;refine L.out (upd s 41 (undef)) _ _ kV (kE (kC (kB (kX (fun _ h=>Bool.noConfusion (h.symm.trans F)) id))) G.out)
   ·have H:=((jE G.out).1 (M 15 rfl))
    cases F:((I && N)) with
    | true =>
     rw [F] at H;have al:=((jE G.out).2.2.1 (M 17 rfl)) F;have ap:=((jC (jE G.out)).2.2.1 (M 21 rfl)) F;go_simp
     go_at_call 45
     refine (jh U.fin now _).mono ?_;rintro _ _ ⟨rfl,rfl⟩;rw [ad.out];refine L.out (upd s 42 (.bool T)) _ _ (by simp [aX,H,al,ap] <;> rfl) (kE (kC (kB (kA (kX (fun _ _=>rfl) id)))) G.out)
    | false =>
     rw [F] at H;go_simp;refine L.out (upd s 42 (undef)) _ _ kV (kE (kC (kB (kA (kX (fun _ h=>Bool.noConfusion (h.symm.trans F)) id)))) G.out)
   ·have H:=((jE G.out).1 (M 15 rfl))
    cases F:((I && N)) with
    | true =>
     rw [F] at H;have aq:=((jC (jE G.out)).2.2.2.1 (M 22 rfl)) F;go_simp;refine L.out (upd s 43 (.bool (!T))) _ _ (by simp [aX,H,aq] <;> rfl) (kE (kD (kX (fun _ _=>rfl) id)) G.out)
    | false =>
     rw [F] at H;go_simp;refine L.out (upd s 43 (undef)) _ _ kV (kE (kD (kX (fun _ h=>Bool.noConfusion (h.symm.trans F)) id)) G.out)
   ·have H:=((jE G.out).1 (M 15 rfl))
    have a1:=((jD (jE G.out)).1 (M 23 rfl));cases F:((I && N)) with
    | true =>
     rw [F] at H;replace a1:=a1 F;go_simp;refine L.out (upd s 44 (.bool (!T))) _ _ (by simp [aX,H,a1] <;> rfl) (kE (kD (kA (kX (fun _=>by rw [show (upd s 44 (.bool (!T))) 44=.bool (!T) from rfl];exact KS F) id))) G.out)
    | false =>
     clear a1;rw [F] at H;go_simp;refine L.out (upd s 44 (.bool true)) _ _ kV (kE (kD (kA (kX (fun _=>by rw [show (upd s 44 (.bool true)) 44=.bool true from rfl];exact KT F) id))) G.out)
   ·have ar:=((jD (jE G.out)).2.1 (M 24 rfl))
    go_simp;refine L.out (upd s 45 (.bool (!((I && N) && T)))) _ _ (by simp [aX,ar] <;> rfl) (kE (kD (kB (kX (fun _=>rfl) id))) G.out)
   ·have J:=((jD (jE G.out)).2.2.1 (M 25 rfl))
    cases F:(((I && N) && T)) with
    | true =>
     rw [F] at J;go_simp;refine L.out (upd s 46 (.pointer (some ⟨wr,1,none⟩))) _ _ wS (kE (kD (kB (kA (kX (fun _ _=>rfl) id)))) G.out)
    | false =>
     rw [F] at J;go_simp;refine L.out (upd s 46 (undef)) _ _ wS (kE (kD (kB (kA (kX (fun _ h=>Bool.noConfusion (h.symm.trans F)) id)))) G.out)
   ·have J:=((jD (jE G.out)).2.2.1 (M 25 rfl))
    cases F:(((I && N) && T)) with
    | true =>
     rw [F] at J;have au:=((jD (jE G.out)).2.2.2.1 (M 26 rfl)) F;have z:=(bO (iC X G.out.1)).1 1;have z2:=(bO (iC X G.out.1)).1 2;go_simp;refine L.out (upd s 47 (.agg #[U.code,U.elem])) _ _ (by simp [aX,J,au] <;> rfl) (kE (kD (kC (kX (fun _ _=>rfl) id))) G.out)
    | false =>
     rw [F] at J;go_simp;refine L.out (upd s 47 (undef)) _ _ wS (kE (kD (kC (kX (fun _ h=>Bool.noConfusion (h.symm.trans F)) id))) G.out)
   ·have J:=((jD (jE G.out)).2.2.1 (M 25 rfl))
    cases F:(((I && N) && T)) with
    | true =>
     rw [F] at J;go_simp;refine L.out (upd s 48 (.pointer (some ⟨wr,5,none⟩))) _ _ wS (kE (kD (kC (kA (kX (fun _ _=>rfl) id)))) G.out)
    | false =>
     rw [F] at J;go_simp;refine L.out (upd s 48 (undef)) _ _ wS (kE (kD (kC (kA (kX (fun _ h=>Bool.noConfusion (h.symm.trans F)) id)))) G.out)
   ·have J:=((jD (jE G.out)).2.2.1 (M 25 rfl))
    cases F:(((I && N) && T)) with
    | true =>
     rw [F] at J;have aw:=((jC (jD (jE G.out))).2.1 (M 28 rfl)) F;have z:=(bO (iC X G.out.1)).1 5;go_simp;refine L.out (upd s 49 (.int .i64 U.reply)) _ _ (by simp [aX,J,aw] <;> rfl) (kE (kD (kC (kB (kX (fun _ _=>rfl) id)))) G.out)
    | false =>
     rw [F] at J;go_simp;refine L.out (upd s 49 (undef)) _ _ wS (kE (kD (kC (kB (kX (fun _ h=>Bool.noConfusion (h.symm.trans F)) id)))) G.out)
   ·have J:=((jD (jE G.out)).2.2.1 (M 25 rfl))
    cases F:(((I && N) && T)) with
    | true =>
     rw [F] at J;have av:=((jC (jD (jE G.out))).1 (M 27 rfl)) F;have ax:=((jC (jD (jE G.out))).2.2.1 (M 29 rfl)) F;go_simp
     go_at_call 151
     refine (FB U.code U.elem U.reply _).mono ?_;rintro _ wy ⟨rfl,hE⟩;rw [ae.out];refine L.out (upd s 50 (.bool V)) _ _ (by simp [aX,J,av,ax] <;> rfl) (kX (bT G.out.1 hE) (kE (kD (kC (kB (kX (fun _ _=>rfl) (kX (nU (hn 31 rfl)) (kX (nU (hn 32 rfl)) (kX (nU (hn 33 rfl)) (kX (nU (hn 34 rfl)) (kX (nU (hn 35 rfl)) (kX (nU (hn 36 rfl)) (kX (nU (hn 37 rfl)) (fun _=>nU (hn 38 rfl)))))))))))))) G.out)
    | false =>
     rw [F] at J;go_simp;refine L.out (upd s 50 (undef)) _ _ wS (kE (kD (kC (kB (kA (kX (fun _ h=>Bool.noConfusion (h.symm.trans F)) id))))) G.out)
   ·have J:=((jD (jE G.out)).2.2.1 (M 25 rfl))
    cases F:(((I && N) && T)) with
    | true =>
     rw [F] at J;have ay:=((jC (jD (jE G.out))).2.2.2.1 (M 30 rfl)) F;go_simp;refine L.out (upd s 51 (.bool (!V))) _ _ (by simp [aX,J,ay] <;> rfl) (kE (kE (kX (fun _ _=>rfl) id)) G.out)
    | false =>
     rw [F] at J;go_simp;refine L.out (upd s 51 (undef)) _ _ wS (kE (kE (kX (fun _ h=>Bool.noConfusion (h.symm.trans F)) id)) G.out)
   ·have J:=((jD (jE G.out)).2.2.1 (M 25 rfl))
    have a2:=((jE (jE G.out)).1 (M 31 rfl));cases F:(((I && N) && T)) with
    | true =>
     rw [F] at J;replace a2:=a2 F;go_simp;refine L.out (upd s 52 (.bool (!V))) _ _ (by simp [aX,J,a2] <;> rfl) (kE (kE (kA (kX (fun _=>by rw [show (upd s 52 (.bool (!V))) 52=.bool (!V) from rfl];exact KS F) id))) G.out)
    | false =>
     clear a2;rw [F] at J;go_simp;refine L.out (upd s 52 (.bool true)) _ _ wS (kE (kE (kA (kX (fun _=>by rw [show (upd s 52 (.bool true)) 52=.bool true from rfl];exact KT F) id))) G.out)
   ·have az:=((jE (jE G.out)).2.1 (M 32 rfl))
    go_simp;refine L.out (upd s 53 (.bool (!(((I && N) && T) && V)))) _ _ (by simp [aX,az] <;> rfl) (kE (kE (kB (kX (fun _=>rfl) id))) G.out)
   ·have O:=((jE (jE G.out)).2.2.1 (M 33 rfl))
    cases F:((((I && N) && T) && V)) with
    | true =>
     rw [F] at O;go_simp;refine L.out (upd s 54 (.pointer (some ⟨wr,6,none⟩))) _ _ yl (kE (kE (kB (kA (kX (fun _ _=>rfl) id)))) G.out)
    | false =>
     rw [F] at O;go_simp;refine L.out (upd s 54 (undef)) _ _ yl (kE (kE (kB (kA (kX (fun _ h=>Bool.noConfusion (h.symm.trans F)) id)))) G.out)
   ·have O:=((jE (jE G.out)).2.2.1 (M 33 rfl))
    cases F:((((I && N) && T) && V)) with
    | true =>
     rw [F] at O;have b0:=((jE (jE G.out)).2.2.2.1 (M 34 rfl)) F;have z:=(bO (iC X G.out.1)).1 6;go_simp;refine L.out (upd s 55 (.int .i64 U.out)) _ _ (by simp [aX,O,b0] <;> rfl) (kE (kE (kC (kX (fun _ _=>rfl) id))) G.out)
    | false =>
     rw [F] at O;go_simp;refine L.out (upd s 55 (undef)) _ _ yl (kE (kE (kC (kX (fun _ h=>Bool.noConfusion (h.symm.trans F)) id))) G.out)
   ·have O:=((jE (jE G.out)).2.2.1 (M 33 rfl))
    cases F:((((I && N) && T) && V)) with
    | true =>
     rw [F] at O;have b1:=((jC (jE (jE G.out))).1 (M 35 rfl)) F;go_simp
     go_at_call 45
     refine (jh U.out 999 _).mono ?_;rintro _ _ ⟨rfl,rfl⟩;rw [af.out];refine L.out (upd s 56 (.bool q4)) _ _ (by simp [aX,O,b1] <;> rfl) (kE (kE (kC (kA (kX (fun _ _=>rfl) id)))) G.out)
    | false =>
     rw [F] at O;go_simp;refine L.out (upd s 56 (undef)) _ _ yl (kE (kE (kC (kA (kX (fun _ h=>Bool.noConfusion (h.symm.trans F)) id)))) G.out)
   ·have O:=((jE (jE G.out)).2.2.1 (M 33 rfl))
    cases F:((((I && N) && T) && V)) with
    | true =>
     rw [F] at O;have b2:=((jC (jE (jE G.out))).2.1 (M 36 rfl)) F;go_simp;refine L.out (upd s 57 (.bool (!q4))) _ _ (by simp [aX,O,b2] <;> rfl) (kE (kE (kC (kB (kX (fun _ _=>rfl) id)))) G.out)
    | false =>
     rw [F] at O;go_simp;refine L.out (upd s 57 (undef)) _ _ yl (kE (kE (kC (kB (kX (fun _ h=>Bool.noConfusion (h.symm.trans F)) id)))) G.out)
   ·have O:=((jE (jE G.out)).2.2.1 (M 33 rfl))
    have a3:=((jC (jE (jE G.out))).2.2.1 (M 37 rfl));cases F:((((I && N) && T) && V)) with
    | true =>
     rw [F] at O;replace a3:=a3 F;go_simp;refine L.out (upd s 58 (.bool (!q4))) _ _ (by simp [aX,O,a3] <;> rfl) (kE (kE (kC (kB (kA (fun _=>fun _=>by rw [show (upd s 58 (.bool (!q4))) 58=.bool (!q4) from rfl];exact KS F))))) G.out)
    | false =>
     clear a3;rw [F] at O;go_simp;refine L.out (upd s 58 (.bool true)) _ _ yl (kE (kE (kC (kB (kA (fun _=>fun _=>by rw [show (upd s 58 (.bool true)) 58=.bool true from rfl];exact KT F))))) G.out)
  ·have:k=ds.length:=by omega
   subst this;have h1:=a4.out;rw [List.take_length] at h1;go_wp2;go_ret;exact ⟨bQ h1.symm,hB⟩
end
end Go.Proofs.YtffhjmepfojhnaaGreat
