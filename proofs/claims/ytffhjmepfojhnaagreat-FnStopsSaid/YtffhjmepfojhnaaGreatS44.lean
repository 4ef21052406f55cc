/-
  The program's Alone and Settled: what they answer, copies of their own; the lists lie in memory and hold at most 1048576 elements.
-/
import Derived.Test.YtffhjmepfojhnaaGreatS39
set_option maxRecDepth 100000
set_option maxHeartbeats 8000000
set_option linter.unusedSimpArgs false
set_option linter.unusedVariables false
namespace Go.Proofs.YtffhjmepfojhnaaGreat
open _root_.Go.Proofs.Tryz
open Go.RowKit
theorem BD (x:Wo) (most:Int)  (a b d e:Option Addr) (p q r s:Nat) (w:World) (h:ic w w x a b d e) (z:jl x a b d e p q r s) (m:jk x) (hb:yB x) 
  (HF:∀ (y:Wo) (lo B:Nat) (W:World),yB y→y.hands.length=x.hands.length→True→kS W lo B y→Calls prog 76 #[.pointer (some ⟨B,0,none⟩)] W fun r w'=>(r=.returned (.bool (mi y).2)∧kS w' lo B (mi y).1)∧Below lo W w')
  (HN:∀ y:Wo,yB y→yB (mi y).1∧(mi y).1.hands.length=y.hands.length) :
  Calls prog 53 #[kZ x a b d e p q r s,.int .i64 most,.func (.func 76) #[] #[]] w fun r w'=>fE w w' (if dA most 0 20000 then (iV (mi) most.toNat x).1 else x) (.int .i64 (if dA most 0 20000 then ((iV (mi) most.toNat x).2:Int) else -1)) r:=by
 have HW:=aA h
 have HZ:=aA z
 have Ra:=aA HF
 have Rb:=aA HN
 clear h z HF HN
 obtain ⟨A,K⟩:∃ A,Hid (A=if dA most 0 20000 then (iV (mi) most.toNat x).1 else x):=⟨_,rfl⟩
 obtain ⟨Yn,J⟩:∃ Yn,Hid (Yn=if dA most 0 20000 then ((iV (mi) most.toNat x).2:Int) else -1):=⟨_,rfl⟩
 rw [← K.out,← J.out]
 go_enter func53,ntmps53
 go_wp2_with fail
 refine aK w zB fun bb=>?_
 refine (oo x a b d e p q r s _ (HW.out.at bb) HZ.out m).mono ?_
 rintro _ w3 ⟨⟨B,v1,v2,v3,v4,rfl,I,Z,HO⟩,F⟩
 have Y:Below w w w3:=bT bb F
 have a9:=F.size;(try (simp at a9));have X:=hQ F (b:=w);(first|(simp [go_sem,N,a1] at X)|(simp [go_sem] at X));(try clear ac a3);(try clear N);have N:=X;clear X;(try clear a1);obtain ⟨ac,a3,a1⟩:=bO N;have X:=hQ F (b:=w+1);(first|(simp [go_sem,u,D] at X)|(simp [go_sem] at X));(try clear G E);(try clear u);have u:=X;clear X;(try clear D);obtain ⟨G,E,D⟩:=bO u
 obtain ⟨lo,ae⟩:∃ lo,lo=w.heap.size+1+1:=⟨_,rfl⟩
 simp at I HO
 rw [show w.heap.size+1+1=lo from ae.symm] at I HO
 have af:lo≤w3.heap.size:=by omega
 have O:kS w3 lo B x:=kS.of Z HO I
 clear bb F Z HO
 by_cases hm:dA most 0 20000=true
 case neg =>
  have a8:dA most 0 20000=false:=by simpa using hm
  obtain rfl:A=x:=by rw [K.out,a8];rfl
  obtain rfl:Yn=-1:=by rw [J.out,a8];rfl
  clear K J
  obtain ⟨ya,yb,yd,ye,yp,yq,yr,ys,L,⟨k1,k2,k3,k4⟩,_⟩:=kS.cells O
  obtain ⟨ab,a2,aa⟩:=bO L
  have n1:w.heap.size+1≠B:=by omega
  have n2:B≠w.heap.size+1:=by omega
  have n3:w.heap.size+1<B:=by omega
  go_wp2_with (go_at_call 45;refine (eO _ _ _).mono ?_;rintro _ _ ⟨rfl,rfl⟩)
  refine bodyPost_ret (v:=.tuple #[.agg #[A.ch.cap,A.ch.sent,A.ch.got,A.ch.fin,.slice ya A.ch.cells yp,.slice yb A.ch.words yq,.slice yd A.hands yr,.slice ye A.deals ys,A.now],.int .i64 (-1)]) (by simp [results,results53,go_sem, *]) rfl ⟨⟨_,_,_,_,rfl,aH (lo:=lo) (zW k1 u) tO,aH (lo:=lo) (zW k2 u) tO,aH (lo:=lo) (zW k3 u) tO,aH (lo:=lo) (zW k4 u) tO⟩,by exact zB⟩
 have a7:0≤most∧most≤20000:=by simpa [dA] using hm
 obtain ⟨M,rfl⟩:∃ M:Nat,most=(M:Int):=⟨most.toNat,by omega⟩
 have hR:Hid (A=(iV (mi) M x).1∧Yn=(iV (mi) M x).2):=⟨by rw [K.out,hm];simp,by rw [J.out,hm];simp⟩
 clear K J
 go_wp2_with (go_at_call 45;refine (eO _ _ _).mono ?_;rintro _ _ ⟨rfl,rfl⟩)
 go_loopw [9] (fun t wr=>∃ (j:Nat) (y:Wo),j≤M∧t=.int .i64 j∧yB y∧y.hands.length=x.hands.length∧Hid (A=(iV (mi) (M - j) y).1∧Yn=((iV (mi) (M - j) y).2:Int)+j)∧kS wr lo B y∧Below lo w3 wr) (fun t _=>M - (intOf t).toNat)
 case atStart=>exact ⟨0,x,by omega,rfl,hb,rfl,⟨by simpa using hR.out.1,by simpa using hR.out.2⟩,O,Below.refl _ _⟩
 case round =>
  clear O hR
  obtain ⟨j,y,hj,rfl,a0,V,hY,O,H⟩:=hrel
  have ah:=H.size
  replace N:=(H.block w tO).trans N
  replace u:=(H.block (w+1) tO).trans u
  clear ac a3 a1 G E D
  obtain ⟨G,E,D⟩:=bO u
  by_cases a6:j<M
  ·have hd:decide ((j:Int)<(M:Int))=true:=by simp;omega
   go_wp2_with fail
   refine (Ra.out y lo B _ a0 V trivial O).mono ?_
   rintro _ w6 ⟨⟨rfl,R⟩,U⟩
   have ag:=U.size
   obtain ⟨a4,a5⟩:=Rb.out y a0
   cases hf:(mi y).2 with
   | true =>
    go_wp2
    go_roundw
    case rel=>exact ⟨j+1,(mi y).1,by omega,by go_num,a4,a5.trans V,by rw [show M - j=(M - (j+1))+1 by omega] at hY;have T:=hY.out;rw [Iy hf] at T;exact ⟨T.1,by rw [T.2];push_cast;omega⟩,R,H.trans U⟩
    case measure=>simp [intOf];omega
   | false =>
    have T:=hY.out
    rw [show M - j=(M - (j+1))+1 by omega,zR hf] at T
    obtain ⟨h5,h3⟩:=T
    have h6:(mi y).1=A:=h5.symm
    rw [h6] at R
    have h4:Yn=(j:Int):=by rw [h3];simp
    clear h3
    subst h4
    clear hY O
    have O:=R
    clear R
    obtain ⟨ya,yb,yd,ye,yp,yq,yr,ys,L,⟨k1,k2,k3,k4⟩,_⟩:=kS.cells O
    obtain ⟨ab,a2,aa⟩:=bO L
    replace u:=(U.block (w+1) tO).trans u
    clear G E D
    obtain ⟨G,E,D⟩:=bO u
    have ad:Below w w w6:=Y.trans (((H.trans U)).mono tO)
    have n1:w.heap.size+1≠B:=by omega
    have n2:B≠w.heap.size+1:=by omega
    have n3:w.heap.size+1<B:=by omega
    clear a5 V a4 a0 hm a7 hj a6 h5 h6
    go_wp2
    refine bodyPost_ret (v:=.tuple #[.agg #[A.ch.cap,A.ch.sent,A.ch.got,A.ch.fin,.slice ya A.ch.cells yp,.slice yb A.ch.words yq,.slice yd A.hands yr,.slice ye A.deals ys,A.now],.int .i64 j]) (by simp [results,results53,go_sem, *]) rfl ⟨⟨_,_,_,_,rfl,aH (lo:=lo) (zW k1 u) tO,aH (lo:=lo) (zW k2 u) tO,aH (lo:=lo) (zW k3 u) tO,aH (lo:=lo) (zW k4 u) tO⟩,by exact zB⟩
  ·have:j=M:=by omega
   subst this
   have hd:decide ((j:Int)<(j:Int))=false:=by simp
   have T:=hY.out
   simp [zQ] at T
   obtain ⟨rfl,rfl⟩:=T
   clear hY
   obtain ⟨ya,yb,yd,ye,yp,yq,yr,ys,L,⟨k1,k2,k3,k4⟩,_⟩:=kS.cells O
   obtain ⟨ab,a2,aa⟩:=bO L
   have ad:Below w w wr:=Y.trans (H.mono tO)
   have n1:w.heap.size+1≠B:=by omega
   have n2:B≠w.heap.size+1:=by omega
   have n3:w.heap.size+1<B:=by omega
   clear V hj a6 hm a7
   go_wp2
   refine bodyPost_ret (v:=.tuple #[.agg #[A.ch.cap,A.ch.sent,A.ch.got,A.ch.fin,.slice ya A.ch.cells yp,.slice yb A.ch.words yq,.slice yd A.hands yr,.slice ye A.deals ys,A.now],.int .i64 j]) (by simp [results,results53,go_sem, *]) rfl ⟨⟨_,_,_,_,rfl,aH (lo:=lo) (zW k1 u) tO,aH (lo:=lo) (zW k2 u) tO,aH (lo:=lo) (zW k3 u) tO,aH (lo:=lo) (zW k4 u) tO⟩,by exact zB⟩
theorem GL (x:Wo) (who most:Int) (a b d e:Option Addr) (p q r s:Nat) (w:World) (h:ic w w x a b d e) (m:jk x) (F:bC x=false) :
  Calls prog 14 #[kZ x a b d e p q r s,.int .i64 who,.int .i64 most] w fun r w'=>fE w w' Wo.zero (.int .i64 (-1)) r:=by
 have E:=aA h
 have G:x.hands.length≤1099511627776:=by have:=m.2.2.1;omega
 clear h
 go_enter func14,ntmps14
 go_wp2_with fail;refine aK w zB fun z=>?_;refine (fU x a b d e p q r s _ (E.out.at z) m).mono ?_;rintro _ I ⟨rfl,u⟩;obtain ⟨D,y,A⟩:=uW z u (b:=w);(try simp at y);(try simp [go_sem] at A);replace H:=ql A;clear A u z
 rw [F]
 go_wp2
 refine bodyPost_ret (v:=.tuple #[.agg #[.int .i64 0,.int .i64 0,.int .i64 0,.int .i64 0,.slice none 0 0,.slice none 0 0,.slice none 0 0,.slice none 0 0,.int .i64 0],.int .i64 (-1)]) (by simp [results,results14,go_sem, *]) rfl ⟨⟨_,_,_,_,rfl,jg _ _⟩,by exact zB⟩
theorem GM (x:Wo) (who most:Int) (a b d e:Option Addr) (p q r s:Nat) (w:World) (h:ic w w x a b d e) (m:jk x) (G:bC x=true) (H:eH x.hands who=false) :
  Calls prog 14 #[kZ x a b d e p q r s,.int .i64 who,.int .i64 most] w fun r w'=>fE w w' Wo.zero (.int .i64 (-1)) r:=by
 have E:=aA h
 have F:x.hands.length≤1099511627776:=by have:=m.2.2.1;omega
 clear h
 go_enter func14,ntmps14
 go_wp2_with fail;refine aK w zB fun z=>?_;refine (fU x a b d e p q r s _ (E.out.at z) m).mono ?_;rintro _ J ⟨rfl,u⟩;obtain ⟨D,y,A⟩:=uW z u (b:=w);(try simp at y);(try simp [go_sem] at A);replace I:=ql A;clear A u z
 rw [G]
 go_wp2_with fail
 refine (jV x.hands who w d r _ (by simp [*]) F).mono ?_
 rintro _ _ ⟨rfl,rfl⟩
 rw [H]
 go_wp2
 refine bodyPost_ret (v:=.tuple #[.agg #[.int .i64 0,.int .i64 0,.int .i64 0,.int .i64 0,.slice none 0 0,.slice none 0 0,.slice none 0 0,.slice none 0 0,.int .i64 0],.int .i64 (-1)]) (by simp [results,results14,go_sem, *]) rfl ⟨⟨_,_,_,_,rfl,jg _ _⟩,by exact zB⟩
theorem Ei (x:Wo) (most:Int) (a b d e:Option Addr) (p q r s:Nat) (w:World) (h:ic w w x a b d e) (m:jk x) (F:bC x=false) :
  Calls prog 28 #[kZ x a b d e p q r s,.int .i64 most] w fun r w'=>fE w w' Wo.zero (.int .i64 (-1)) r:=by
 have E:=aA h
 have G:x.hands.length≤1099511627776:=by have:=m.2.2.1;omega
 clear h
 go_enter func28,ntmps28
 go_wp2_with fail;refine aK w zB fun z=>?_;refine (fU x a b d e p q r s _ (E.out.at z) m).mono ?_;rintro _ I ⟨rfl,u⟩;obtain ⟨D,y,A⟩:=BM z u (b:=w);(try simp at y);(try simp [go_sem] at A);replace H:=uV A;clear A u z
 rw [F]
 go_wp2
 refine bodyPost_ret (v:=.tuple #[.agg #[.int .i64 0,.int .i64 0,.int .i64 0,.int .i64 0,.slice none 0 0,.slice none 0 0,.slice none 0 0,.slice none 0 0,.int .i64 0],.int .i64 (-1)]) (by simp [results,results28,go_sem, *]) rfl ⟨⟨_,_,_,_,rfl,jg _ _⟩,by exact zB⟩
theorem Ej (y:Wo) (i k B lo:Nat) (W:World) (z:yB y) (A:i<y.hands.length) (D:W.cell? ⟨k,0,none⟩=some (.int .i64 i)) (u:kS W lo B y) :
  Calls prog 54 #[.pointer (some ⟨B,0,none⟩),.pointer (some ⟨k,0,none⟩)] W fun r w'=>(r=.returned (.bool (jc i y).2)∧kS w' lo B (jc i y).1)∧Below lo W w':=by
 go_enter func54,ntmps54
 go_wp2_with fail
 refine (Ed y i B lo _ u z A).mono ?_
 rintro _ E ⟨⟨rfl,m⟩,q⟩
 go_wp2
 go_ret
 exact ⟨⟨rfl,m⟩,q⟩
theorem GN (x:Wo) (i:Nat) (most:Int) (a b d e:Option Addr) (p q r s:Nat) (w:World) (h:ic w w x a b d e) (z:jl x a b d e p q r s) (m:jk x) (hk:bC x=true) (hi:i<x.hands.length) :
  Calls prog 14 #[kZ x a b d e p q r s,.int .i64 i,.int .i64 most] w fun r w'=>fE w w' (iQ x i most).1 (.int .i64 (iQ x i most).2) r:=by
 have HW:=aA h
 have HZ:=aA z
 have M3:x.hands.length≤1099511627776:=by have:=m.2.2.1;omega
 have hb:=zM hk
 clear h z
 have ht:eH x.hands i=true:=by simp [eH,dA];omega
 have ea:iQ x i most=(if dA most 0 20000 then (iV (jc i) most.toNat x).1 else x,if dA most 0 20000 then ((iV (jc i) most.toNat x).2:Int) else -1):=by
  unfold iQ
  rw [hk]
  have a1:cK x (i:Int)=true:=ht
  have ef:(fun y=>iw y (i:Int))=jc i:=rfl
  cases dA most 0 20000 <;> simp [a1,ef]
 rw [ea]
 clear ea
 obtain ⟨H,I⟩:∃ H,Hid (H=if dA most 0 20000 then (iV (jc i) most.toNat x).1 else x):=⟨_,rfl⟩
 obtain ⟨Y,M⟩:∃ Y,Hid (Y=if dA most 0 20000 then ((iV (jc i) most.toNat x).2:Int) else -1):=⟨_,rfl⟩
 rw [← I.out,← M.out]
 go_enter func14,ntmps14
 go_wp2_with fail;refine aK w zB fun L=>?_;refine (fU x a b d e p q r s _ (HW.out.at L) m).mono ?_;rintro _ J ⟨rfl,A⟩;have a4:Below w w J:=bT L A;have R:=A.size;(try simp at R);have N:=And.intro (hQ A (b:=w+1+1)) <| And.intro (hQ A (b:=w+1)) <| hQ A (b:=w);(try simp [go_sem] at N);(try clear u F E D);(try clear K V O U);(try clear X a3 Z a2);obtain ⟨u,K,X⟩:=N;obtain ⟨F,E,D⟩:=bO u;obtain ⟨V,O,U⟩:=bO K;obtain ⟨a3,Z,a2⟩:=bO X;clear A L
 rw [hk]
 go_wp2_with fail
 refine (jV x.hands i w d r _ (by simp [*]) M3).mono ?_
 rintro _ _ ⟨rfl,rfl⟩
 rw [ht]
 go_wp2_with fail
 refine aK w zB fun L=>?_
 refine (BA x most i (w+1) a b d e p q r s _ (HW.out.at L) HZ.out m hb tS (by simp [*]) (fun y lo B W a0 a6 hc BX=>Ej y i (w+1) B lo W a0 tO hc BX) (fun y hy=>⟨xu hy,tH y i⟩)).mono ?_
 rintro _ w6 ⟨⟨v1,v2,v3,v4,rfl,o1,o2,o3,o4⟩,G⟩
 rw [← I.out] at o1 o2 o3 o4
 rw [← I.out,← M.out]
 have a5:Below w w w6:=bT L G
 have T:=G.size;(try (simp at T));have N:=hQ G (b:=w+1+1);(first|(simp [go_sem,u,D] at N)|(simp [go_sem] at N));(try clear F E);(try clear u);have u:=N;clear N;(try clear D);obtain ⟨F,E,D⟩:=bO u
 clear G L
 have k1:=aH o1 (lo':=J) tS
 have k2:=aH o2 (lo':=J) tS
 have k3:=aH o3 (lo':=J) tS
 have k4:=aH o4 (lo':=J) tS
 clear o1 o2 o3 o4
 obtain ⟨ya,yp,rfl,_⟩:=aD.seg k1
 obtain ⟨yb,yq,rfl,_⟩:=aG.seg k2
 obtain ⟨yd,yr,rfl,_⟩:=cO.seg k3
 obtain ⟨ye,ys,rfl,_⟩:=dV.seg k4
 clear I M
 go_wp2
 refine bodyPost_ret (v:=.tuple #[.agg #[H.ch.cap,H.ch.sent,H.ch.got,H.ch.fin,.slice ya H.ch.cells yp,.slice yb H.ch.words yq,.slice yd H.hands yr,.slice ye H.deals ys,H.now],.int .i64 Y]) (by simp [results,results14,go_sem, *]) rfl ⟨⟨_,_,_,_,rfl,aH (lo:=J) (by (repeat (first|with_reducible exact k1|((with_reducible refine aI ?_ ?_ _);rotate_left;(focus exact own_ne k1 (by (try simp);try omega)))))) tO,aH (lo:=J) (by (repeat (first|with_reducible exact k2|((with_reducible refine aI ?_ ?_ _);rotate_left;(focus exact own_ne k2 (by (try simp);try omega)))))) tO,aH (lo:=J) (by (repeat (first|with_reducible exact k3|((with_reducible refine aI ?_ ?_ _);rotate_left;(focus exact own_ne k3 (by (try simp);try omega)))))) tO,aH (lo:=J) (by (repeat (first|with_reducible exact k4|((with_reducible refine aI ?_ ?_ _);rotate_left;(focus exact own_ne k4 (by (try simp);try omega)))))) tO⟩,by exact zB⟩
theorem BF (x:Wo) (most:Int) (a b d e:Option Addr) (p q r s:Nat) (w:World) (h:ic w w x a b d e) (z:jl x a b d e p q r s) (m:jk x) (X:bC x=true) :
  Calls prog 28 #[kZ x a b d e p q r s,.int .i64 most] w fun r w'=>fE w w' (kH x most).1 (.int .i64 (kH x most).2) r:=by
 have HW:=aA h
 have HZ:=aA z
 have M3:x.hands.length≤1099511627776:=by have:=m.2.2.1;omega
 have hb:=zM X
 clear h z
 have ea:kH x most=(if dA most 0 20000 then (iV mi most.toNat x).1 else x,if dA most 0 20000 then ((iV mi most.toNat x).2:Int) else -1):=by
  unfold kH
  rw [X]
  skip
  skip
  cases dA most 0 20000 <;> simp
 rw [ea]
 clear ea
 obtain ⟨F,I⟩:∃ F,Hid (F=if dA most 0 20000 then (iV mi most.toNat x).1 else x):=⟨_,rfl⟩
 obtain ⟨T,L⟩:∃ T,Hid (T=if dA most 0 20000 then ((iV mi most.toNat x).2:Int) else -1):=⟨_,rfl⟩
 rw [← I.out,← L.out]
 go_enter func28,ntmps28
 go_wp2_with fail;refine aK w zB fun K=>?_;refine (fU x a b d e p q r s _ (HW.out.at K) m).mono ?_;rintro _ J ⟨rfl,A⟩;have a2:Below w w J:=bT K A;have N:=A.size;(try simp at N);have M:=And.intro (hQ A (b:=w+1)) <| hQ A (b:=w);(try simp [go_sem] at M);(try clear u H G E);(try clear R a1 U a0);obtain ⟨u,R⟩:=M;obtain ⟨H,G,E⟩:=bO u;obtain ⟨a1,U,a0⟩:=bO R;clear A K
 rw [X]
 go_wp2_with fail
 refine aK w zB fun K=>?_
 refine (BD x most a b d e p q r s _ (HW.out.at K) HZ.out m hb (fun y lo B W V a4 _ BX=>GH y B lo W BX V tO) (fun y hy=>Ng hy)).mono ?_
 rintro _ w6 ⟨⟨v1,v2,v3,v4,rfl,o1,o2,o3,o4⟩,D⟩
 rw [← I.out] at o1 o2 o3 o4
 rw [← I.out,← L.out]
 have a3:Below w w w6:=bT K D
 have O:=D.size;(try (simp at O));have M:=hQ D (b:=w+1);(first|(simp [go_sem,u,E] at M)|(simp [go_sem] at M));(try clear H G);(try clear u);have u:=M;clear M;(try clear E);obtain ⟨H,G,E⟩:=bO u
 clear D K
 have Y:=aH o1 (lo':=J) tS
 have Z:=aH o2 (lo':=J) tS
 have k3:=aH o3 (lo':=J) tS
 have k4:=aH o4 (lo':=J) tS
 clear o1 o2 o3 o4
 obtain ⟨ya,yp,rfl,_⟩:=aD.seg Y
 obtain ⟨yb,yq,rfl,_⟩:=aG.seg Z
 obtain ⟨yd,yr,rfl,_⟩:=cO.seg k3
 obtain ⟨ye,ys,rfl,_⟩:=dV.seg k4
 clear I L
 go_wp2
 refine bodyPost_ret (v:=.tuple #[.agg #[F.ch.cap,F.ch.sent,F.ch.got,F.ch.fin,.slice ya F.ch.cells yp,.slice yb F.ch.words yq,.slice yd F.hands yr,.slice ye F.deals ys,F.now],.int .i64 T]) (by simp [results,results28,go_sem, *]) rfl ⟨⟨_,_,_,_,rfl,aH (lo:=J) (by (repeat (first|with_reducible exact Y|((with_reducible refine aI ?_ ?_ _);rotate_left;(focus exact own_ne Y (by (try simp);try omega)))))) tO,aH (lo:=J) (by (repeat (first|with_reducible exact Z|((with_reducible refine aI ?_ ?_ _);rotate_left;(focus exact own_ne Z (by (try simp);try omega)))))) tO,aH (lo:=J) (by (repeat (first|with_reducible exact k3|((with_reducible refine aI ?_ ?_ _);rotate_left;(focus exact own_ne k3 (by (try simp);try omega)))))) tO,aH (lo:=J) (by (repeat (first|with_reducible exact k4|((with_reducible refine aI ?_ ?_ _);rotate_left;(focus exact own_ne k4 (by (try simp);try omega)))))) tO⟩,by exact zB⟩
theorem oQ (x:Wo) (who most:Int) (a b d e:Option Addr) (p q r s:Nat) (w:World) (h:ic w w x a b d e) (z:jl x a b d e p q r s) (m:jk x) :
  Calls prog 14 #[kZ x a b d e p q r s,.int .i64 who,.int .i64 most] w fun r w'=>fE w w' (iQ x who most).1 (.int .i64 (iQ x who most).2) r:=by
 cases u:bC x with
 | false =>
  rw [show iQ x who most=(Wo.zero,-1) by simp [iQ,u]]
  exact GL x who most a b d e p q r s w h m u
 | true =>
  cases y:eH x.hands who with
  | false =>
   rw [show iQ x who most=(Wo.zero,-1) by simp [iQ,u,cK,y]]
   exact GM x who most a b d e p q r s w h m u y
  | true =>
   obtain ⟨i,rfl⟩:∃ i:Nat,who=(i:Int):=⟨who.toNat,by simp [eH,dA] at y;omega⟩
   exact GN x i most a b d e p q r s w h z m u (by simp [eH,dA] at y;omega)
theorem BG (x:Wo) (most:Int) (a b d e:Option Addr) (p q r s:Nat) (w:World) (h:ic w w x a b d e) (z:jl x a b d e p q r s) (m:jk x) :
  Calls prog 28 #[kZ x a b d e p q r s,.int .i64 most] w fun r w'=>fE w w' (kH x most).1 (.int .i64 (kH x most).2) r:=by
 cases u:bC x with
 | false =>
  rw [show kH x most=(Wo.zero,-1) by simp [kH,u]]
  exact Ei x most a b d e p q r s w h m u
 | true=>exact BF x most a b d e p q r s w h z m u
end Go.Proofs.YtffhjmepfojhnaaGreat
