/-
  Who is parked in a world, of the reference model; lists lie in memory and hold at most 2 ^ 40 elements.
-/
import Derived.Test.YtffhjmepfojhnaaGreatT30
import Derived.Test.YtffhjmepfojhnaaGreatT13
import Derived.Test.YtffhjmepfojhnaaGreatT04
set_option maxRecDepth 100000
set_option maxHeartbeats 4000000
set_option linter.unusedSimpArgs false
set_option linter.unusedVariables false
namespace Go.Proofs.YtffhjmepfojhnaaGreat
open _root_.Go.Proofs.Tryz
section
open Go.RowKit
attribute [local simp] dz
attribute [local go_sem ↓] dA dO dP jv bK
attribute [local go_sem] iG
theorem wI (x:Wo):∀ k,(jf x k).length≤k
 | 0=>Nat.le_refl _
 | k+1=>by
  have:=wI x k;unfold jf;split
  ·simp;omega
  ·omega
theorem Kn {x:Wo} {k:Nat} (h:lT x k=true):jf x (k+1)=jf x k ++ [(k:Int)]:=by simp [jf,h]
theorem NI {x:Wo} {k:Nat} (h:lT x k=false):jf x (k+1)=jf x k:=by simp [jf,h]
theorem Cw (x:Wo) (a b d e:Option Addr) (p q r s:Nat) (w:World) (h1:gG w w a x.ch.cells) (z1:a=none→p=0) (h2:gI w w b x.ch.words) (z2:b=none→q=0) (h3:qX w w d x.hands) (h4:uh w w e x.deals) (m1:x.ch.cells.length≤1099511627776) (m3:x.hands.length≤1099511627776) (m4:x.deals.length≤1099511627776) :
  Calls prog 26 #[oI x a b d e p q r s] w fun r' w'=>(∃ v,r'=.returned v∧aI w' w v (eX x))∧Below w w w':=by
 obtain ⟨i0,a5,a8,a9,aa⟩:=info_parts pR;have H1:=aA h1;have H2:=aA h2;have H3:=aA h3;have H4:=aA h4;have Z1:=aA z1;have Z2:=aA z2;clear h1 h2 h3 h4 z1 z2;cases hk:dB x with
 | false =>
  have e0:eX x=[]:=by simp [eX,hk]
  rw [e0];go_enter func26,ntmps26;go_wp2_with fail;refine aK w zB fun M=>?_
  refine (eY x a b d e p q r s _ (aT H1 M) (aT H2 M) (aT H3 M) (aT H4 M) m3 m4).mono ?_;rintro _ w1 ⟨rfl,G⟩;rw [hk];have o0:aI w1 w _ []:=own_below (iQ _ _ _ _ (w+1) cK cK) G;have a0:Below w w w1:=bT M G;have T:=G.size;(try simp at T);have N:=hQ G (b:=w);(try simp [go_sem] at N);(try clear F L K J);have F:=N;clear N;obtain ⟨L,K,J⟩:=bO F;clear G;go_wp2;go_ret;exact ⟨⟨_,rfl,o0⟩,zB⟩
 | true =>
  have e0:eX x=jf x x.hands:=by simp [eX,hk]
  rw [e0];go_enter func26,ntmps26;go_wp2_with fail;refine aK w zB fun M=>?_
  refine (eY x a b d e p q r s _ (aT H1 M) (aT H2 M) (aT H3 M) (aT H4 M) m3 m4).mono ?_;rintro _ w1 ⟨rfl,G⟩;rw [hk];have o0:aI w1 (w+1) _ []:=own_below (iQ _ _ _ _ (w+1) cK cK) G;have a0:Below w w w1:=bT M G;have T:=G.size;(try simp at T);have N:=hQ G (b:=w);(try simp [go_sem] at N);(try clear F L K J);have F:=N;clear N;obtain ⟨L,K,J⟩:=bO F;clear G;go_wp2;go_loopw [3,4] (fun v i wr=>∃ k:Nat,k≤x.hands.length∧i=.int .i64 k∧aI wr (w+1) v (jf x k)∧hp wr w=some (.cells #[x.ch.cap,x.ch.sent,x.ch.got,x.ch.fin,.slice a x.ch.cells p,.slice b x.ch.words q,.slice d x.hands r,.slice e x.deals s,x.now] 35)∧w<wr.heap.size∧Below w w wr) (fun _ i _=>x.hands.length - (intOf i).toNat)
  case atStart=>exact ⟨0,Nat.zero_le _,rfl,o0,by simp [go_sem, *],by omega,a0⟩
  case round =>
   obtain ⟨k,hk,rfl,I,F,J,V⟩:=hrel;clear L K;have L:∀ o,wr.cell? ⟨w,o,none⟩=_:=fun o=>cell_of_row wr w o _ _ _ F
   have K:∀ o,wr.frozen? ⟨w,o,none⟩=false:=dJ F;by_cases a6:k<x.hands.length
   ·have ac:(0:Int)≤(k:Int):=by omega
    have ad:(k:Int)<(x.hands.length:Int):=tO;have ae:=wI x k;have PP:=vK x k a6 a b d e p q r s wr (H1.out.below V |>.more V.size) Z1.out (H2.out.below V |>.more V.size) Z2.out (H3.out.below V |>.more V.size) (H4.out.below V |>.more V.size) m1 m3 m4;cases X:lT x k with
    | true =>
     rw [X] at PP;go_wp2_with fail;refine aK w zB fun M=>?_;refine aK wr zB fun bk=>?_;refine (PP).mono ?_;rintro _ Y ⟨rfl,H⟩;have a1:Below w w Y:=bT M H;have U:=H.size;(try simp at U);have N:=hQ H (b:=w);(first|simp [go_sem,F,J] at N|simp [go_sem] at N|skip);(try clear F L K J);have F:=N;clear N;obtain ⟨L,K,J⟩:=bO F;have O:Below wr wr Y:=bT bk H;clear H M bk
     replace I:=own_below I O;go_wp2_with (at_builtin;refine wpList_append_own _ rfl _ _ 29 rfl (w.heap.size+1) 2 i0 _ 1 8 underlying29 a5 a8 a9 aa rfl cB _ _ _ rfl (I.alloc _) ⟨Y,0,none⟩ 1 1 [.int .i64 k] rfl rfl (UD _ _ _) CF ?c3 ?c4 ?c5 ?_)
     case c3=>unfold maxLen;omega
     case c4=>omega
     case c5=>simp;omega
     intro v4 w4 R hg _;have a2:=own_ne I (b:=w) tO;have ab:hp w4 w=hp Y w:=by
      refine (hg.block w dQ (fun e=>a2 e.symm)).trans ?_;exact Below.heap_alloc _ _ _ tO
     have a7:=hg.size;simp at a7;have a3:Below w w w4:=mO zB hg dQ (fun q hq=>by have:=(I.lt q hq).1;omega);have Z:aI w4 (w+1) v4 (jf x (k+1)):=by
      rw [Kn X];exact aI.snoc R
     clear R hg a2 I;go_wp2;go_roundw
     case rel=>exact ⟨k+1,by omega,by go_num,Z,ab.trans F,by omega,a3⟩
     case measure=>simp [intOf];omega
    | false =>
     rw [X] at PP;go_wp2_with fail;refine aK w zB fun M=>?_;refine aK wr zB fun bk=>?_;refine (PP).mono ?_;rintro _ Y ⟨rfl,H⟩;have a1:Below w w Y:=bT M H;have U:=H.size;(try simp at U);have N:=hQ H (b:=w);(first|simp [go_sem,F,J] at N|simp [go_sem] at N|skip);(try clear F L K J);have F:=N;clear N;obtain ⟨L,K,J⟩:=bO F;have O:Below wr wr Y:=bT bk H;clear H M bk
     replace I:=own_below I O;have a4:Below w w Y:=bT V O;go_wp2;go_roundw
     case rel=>exact ⟨k+1,by omega,by go_num,by rw [NI X];exact I,F,by omega,a4⟩
     case measure=>simp [intOf];omega
   ·have:k=x.hands.length:=by omega
    subst this;go_wp2;go_ret;exact ⟨⟨_,rfl,aL I tO⟩,V⟩
theorem yU {x:Wo} {k:Nat} (h:iL x k=true) (e:((aJ x (k:Int)).pos == 0 || lT x k)=true):iL x (k+1)=true:=by simp [iL,h,e]
theorem BA {x:Wo} {k:Nat} (e:((aJ x (k:Int)).pos == 0 || lT x k)=false):∀ n,k<n→iL x n=false
 | 0,h=>absurd h (Nat.not_lt_zero _)
 | n+1,h=>by
  by_cases F:k=n
  ·subst F;simp [iL,e]
  ·simp [iL,BA e n tO]
theorem si (x:Wo) (a b d e:Option Addr) (p q r s:Nat) (w:World) (h1:gG w w a x.ch.cells) (z1:a=none→p=0) (h2:gI w w b x.ch.words) (z2:b=none→q=0) (h3:qX w w d x.hands) (h4:uh w w e x.deals) (m1:x.ch.cells.length≤1099511627776) (m3:x.hands.length≤1099511627776) (m4:x.deals.length≤1099511627776) :
  Calls prog 33 #[oI x a b d e p q r s] w fun r' w'=>r'=.returned (.bool (quietIn x))∧Below w w w':=by
 have H1:=aA h1;have H2:=aA h2;have H3:=aA h3;have H4:=aA h4;have Z1:=aA z1;have Z2:=aA z2;clear h1 h2 h3 h4 z1 z2;cases hk:dB x with
 | false =>
  have e0:quietIn x=false:=by simp [quietIn,hk]
  rw [e0];go_enter func33,ntmps33;go_wp2_with fail;refine aK w zB fun J=>?_;refine (eY x a b d e p q r s _ (aT H1 J) (aT H2 J) (aT H3 J) (aT H4 J) m3 m4).mono ?_;rintro _ w1 ⟨rfl,H⟩;have a0:Below w w w1:=bT J H;have T:=H.size;(try simp at T);have M:=hQ H (b:=w);(try simp [go_sem] at M);(try clear F L K I);have F:=M;clear M;obtain ⟨L,K,I⟩:=bO F;clear H J
  rw [hk];go_wp2;go_ret;exact ⟨rfl,zB⟩
 | true =>
  have e0:quietIn x=iL x x.hands:=by simp [quietIn,hk]
  rw [e0];go_enter func33,ntmps33;go_wp2_with fail;refine aK w zB fun J=>?_;refine (eY x a b d e p q r s _ (aT H1 J) (aT H2 J) (aT H3 J) (aT H4 J) m3 m4).mono ?_;rintro _ w1 ⟨rfl,H⟩;have a0:Below w w w1:=bT J H;have T:=H.size;(try simp at T);have M:=hQ H (b:=w);(try simp [go_sem] at M);(try clear F L K I);have F:=M;clear M;obtain ⟨L,K,I⟩:=bO F;clear H J
  rw [hk];have a4:Below w w w1:=zB;go_wp2;go_loopw [3] (fun i wr=>∃ k:Nat,k≤x.hands.length∧i=.int .i64 k∧Hid (iL x k=true)∧hp wr w=some (.cells #[x.ch.cap,x.ch.sent,x.ch.got,x.ch.fin,.slice a x.ch.cells p,.slice b x.ch.words q,.slice d x.hands r,.slice e x.deals s,x.now] 35)∧w<wr.heap.size∧Below w w wr) (fun i _=>x.hands.length - (intOf i).toNat)
  case atStart=>exact ⟨0,Nat.zero_le _,rfl,rfl,by simp [go_sem, *],by omega,a4⟩
  case round =>
   obtain ⟨k,hk,rfl,R,F,I,N⟩:=hrel;clear L K;have L:∀ o,wr.cell? ⟨w,o,none⟩=_:=fun o=>cell_of_row wr w o _ _ _ F
   have K:∀ o,wr.frozen? ⟨w,o,none⟩=false:=dJ F;by_cases Y:k<x.hands.length
   ·have a6:(0:Int)≤(k:Int):=by omega
    have a7:(k:Int)<(x.hands.length:Int):=tO;have PP:=vK x k Y a b d e p q r s wr (H1.out.below N |>.more N.size) Z1.out (H2.out.below N |>.more N.size) Z2.out (H3.out.below N |>.more N.size) (H4.out.below N |>.more N.size) m1 m3 m4;obtain ⟨b3,o3,rfl,a5,a2⟩:∃ b o,d=some ⟨b,o,none⟩∧b<w.heap.size∧(∀ i j,i<x.hands.length→j<14→w.cell? ⟨b,o+i*14+j,none⟩=some (fO x.hands i j)):=by
     rcases H3.out with h0|h0
     ·omega
     ·exact h0
    have c0:wr.cell? ⟨b3,o3+k*14,none⟩=some (.int .i64 (aJ x (k:Int)).pos):=(N.cell (p:=⟨b3,o3+k*14,none⟩) a5).trans ((a2 k 0 Y tO).trans zI);clear a2;by_cases a3:(aJ x (k:Int)).pos=0
    ·go_wp2
     go_roundw
     case rel=>exact ⟨k+1,by omega,by go_num,yU R.out (by simp [a3]),F,by omega,N⟩
     case measure=>simp [intOf];omega
    ·cases V:lT x k with
     | true =>
      rw [V] at PP;go_wp2_with fail;refine aK w zB fun J=>?_;refine aK wr zB fun bk=>?_;refine (PP).mono ?_;rintro _ Z ⟨rfl,G⟩;have a1:Below w w Z:=bT J G;have U:=G.size;(try simp at U);have M:=hQ G (b:=w);(first|simp [go_sem,F,I] at M|simp [go_sem] at M|skip);(try clear F L K I);have F:=M;clear M;obtain ⟨L,K,I⟩:=bO F;have O:Below wr wr Z:=bT bk G;clear G J bk
      have X:Below w w Z:=bT N O;go_wp2;go_roundw
      case rel=>exact ⟨k+1,by omega,by go_num,yU R.out (by simp [V]),F,by omega,X⟩
      case measure=>simp [intOf];omega
     | false =>
      rw [V] at PP;go_wp2_with fail;refine aK w zB fun J=>?_;refine aK wr zB fun bk=>?_;refine (PP).mono ?_;rintro _ Z ⟨rfl,G⟩;have a1:Below w w Z:=bT J G;have U:=G.size;(try simp at U);have M:=hQ G (b:=w);(first|simp [go_sem,F,I] at M|simp [go_sem] at M|skip);(try clear F L K I);have F:=M;clear M;obtain ⟨L,K,I⟩:=bO F;have O:Below wr wr Z:=bT bk G;clear G J bk
      have X:Below w w Z:=bT N O;go_wp2;go_ret;exact ⟨bQ (BA (by simp [a3,V]) _ Y).symm,X⟩
   ·have:k=x.hands.length:=by omega
    subst this;go_wp2;go_ret;exact ⟨bQ (by have:=R.out;exact this.symm),N⟩
theorem wJ (x:Wo):∀ k v,v ∈ jf x k→∃ j:Nat,v=(j:Int)∧j<k
 | 0,v,h=>by cases h
 | k+1,v,h=>by
  unfold jf at h;split at h
  ·rcases List.mem_append.1 h with h|h
   ·obtain ⟨j,e,F⟩:=wJ x k v h
    exact ⟨j,e,by omega⟩
   ·simp at h
    exact ⟨k,h,by omega⟩
  ·obtain ⟨j,e,F⟩:=wJ x k v h
   exact ⟨j,e,by omega⟩
theorem Ko {x:Wo} {k:Nat} (G:k<(eX x).length):∃ j:Nat,(eX x).getD k 0=(j:Int)∧j<x.hands.length:=by
 have F:(eX x).getD k 0 ∈ eX x:=by simp [List.getD,G]
 unfold eX at F ⊢;split at F
 ·rename_i e;rw [if_pos e];exact wJ x _ _ F
 ·cases F
theorem Kq (x:Wo):(eX x).length≤x.hands.length:=by
 unfold eX;split
 ·exact wI x _
 ·simp
theorem Kr {x:Wo} {l:List Int} {k:Nat} {j:Int} (F:k<l.length) (hc:l.getD k 0=j):jU x (l.take (k+1))=jU x (l.take k)+(if (aJ x j).code == 1 then 1 else 0)∧lK x (l.take (k+1))=lK x (l.take k)+(if (aJ x j).code == 1 then 0 else 1):=by
 unfold jU lK;rw [lu l k 0 F,hc,List.filter_append,List.filter_append,List.length_append,List.length_append];by_cases h:(aJ x j).code=1 <;> simp [h]
theorem NJ (x:Wo) (l:List Int) (k:Nat):jU x (l.take k)≤k∧lK x (l.take k)≤k:=by
 have h:=List.length_filter_le (fun i=>(aJ x i).code == 1) (l.take k);have h2:=List.length_filter_le (fun i=>!((aJ x i).code == 1)) (l.take k);have:=List.length_take_le k l;unfold jU lK;omega
theorem Ie (x:Wo) (a b d e:Option Addr) (p q r s:Nat) (w:World) (h1:gG w w a x.ch.cells) (z1:a=none→p=0) (h2:gI w w b x.ch.words) (z2:b=none→q=0) (h3:qX w w d x.hands) (h4:uh w w e x.deals) (m1:x.ch.cells.length≤1099511627776) (m3:x.hands.length≤1099511627776) (m4:x.deals.length≤1099511627776) :
  Calls prog 34 #[oI x a b d e p q r s] w fun r' w'=>r'=.returned (.bool (lV x))∧Below w w w':=by
 have H1:=aA h1;have H2:=aA h2;have H3:=aA h3;have H4:=aA h4;have Z1:=aA z1;have Z2:=aA z2;clear h1 h2 h3 h4 z1 z2;cases T:quietIn x with
 | false =>
  have e0:lV x=false:=by simp [lV,T]
  rw [e0];go_enter func34,ntmps34;go_wp2_with fail;refine aK w zB fun H=>?_;refine (si x a b d e p q r s _ (aT H1 H) Z1.out (aT H2 H) Z2.out (aT H3 H) (aT H4 H) m1 m3 m4).mono ?_;rintro _ w1 ⟨rfl,G⟩;have Z:Below w w w1:=bT H G;have R:=G.size;(try simp at R);have M:=hQ G (b:=w);(try simp [go_sem] at M);(try clear F L J I);have F:=M;clear M;obtain ⟨L,J,I⟩:=bO F;clear G H
  rw [T];go_wp2;go_ret;exact ⟨rfl,zB⟩
 | true =>
  have HE:Hid (lV x=(decide (((keptIn x.ch).length:Int)≤x.ch.cap) && ((jU x (eX x) == 0 || ((keptIn x.ch).length:Int) == x.ch.cap) && (lK x (eX x) == 0 || ((keptIn x.ch).length == 0 && jU x (eX x) == 0))))):=by simp [Hid,lV,T]
  have U:=fun k T=>Ko (x:=x) (k:=k) T
  have a1:=fun k j T hc=>Kr (x:=x) (l:=eX x) (k:=k) (j:=j) T hc
  have a0:=NJ x (eX x);have ab:=Kq x;have KK:=aA (Gy x.ch);have PK:=aA (Cw x);go_enter func34,ntmps34;go_wp2_with fail;refine aK w zB fun H=>?_;refine (si x a b d e p q r s _ (aT H1 H) Z1.out (aT H2 H) Z2.out (aT H3 H) (aT H4 H) m1 m3 m4).mono ?_;rintro _ w1 ⟨rfl,G⟩;have Z:Below w w w1:=bT H G;have R:=G.size;(try simp at R);have M:=hQ G (b:=w);(try simp [go_sem] at M);(try clear F L J I);have F:=M;clear M;obtain ⟨L,J,I⟩:=bO F;clear G H
  rw [T];generalize eX x=l at *;generalize keptIn x.ch=kl at *;go_wp2_with fail;refine aK w zB fun H=>?_;refine (KK.out a b p q _ (aT H1 H) (aT H2 H) m1).mono ?_;rintro _ w2 ⟨⟨vk,rfl,ok⟩,N⟩;have a9:Below w w w2:=bT H N;have a4:=N.size;(try simp at a4);have M:=hQ N (b:=w);(first|simp [go_sem,F,I] at M|simp [go_sem] at M|skip);(try clear F L J I);have F:=M;clear M;obtain ⟨L,J,I⟩:=bO F;clear N H
  obtain ⟨ka,kc,rfl,_⟩:=aI.seg ok;clear ok;go_wp2_with fail;refine aK w zB fun H=>?_;refine (PK.out a b d e p q r s _ (aT H1 H) Z1.out (aT H2 H) Z2.out (aT H3 H) (aT H4 H) m1 m3 m4).mono ?_;rintro _ w3 ⟨⟨vl,rfl,ol⟩,O⟩;have aa:Below w w w3:=bT H O;have a5:=O.size;(try simp at a5);have M:=hQ O (b:=w);(first|simp [go_sem,F,I] at M|simp [go_sem] at M|skip);(try clear F L J I);have F:=M;clear M;obtain ⟨L,J,I⟩:=bO F;clear O H
  obtain ⟨la,lc,rfl,a8⟩:=aI.seg ol;clear ol;have a6:Below w w w3:=zB;go_wp2;go_loopw [5,6,7] (fun sv rv i wr=>∃ k:Nat,k≤l.length∧i=.int .i64 k∧sv=.int .i64 (jU x (l.take k))∧rv=.int .i64 (lK x (l.take k))∧Hid (gI wr wr la l)∧hp wr w=some (.cells #[x.ch.cap,x.ch.sent,x.ch.got,x.ch.fin,.slice a x.ch.cells p,.slice b x.ch.words q,.slice d x.hands r,.slice e x.deals s,x.now] 35)∧w<wr.heap.size∧Below w w wr) (fun _ _ i _=>l.length - (intOf i).toNat)
  case atStart=>exact ⟨0,Nat.zero_le _,rfl,rfl,rfl,a8,F,by omega,a6⟩
  case round =>
   obtain ⟨k,T,rfl,rfl,rfl,LS,F,I,hB⟩:=hrel;clear L J;have L:∀ o,wr.cell? ⟨w,o,none⟩=_:=fun o=>cell_of_row wr w o _ _ _ F
   have J:∀ o,wr.frozen? ⟨w,o,none⟩=false:=dJ F;by_cases X:k<l.length
   ·have af:(0:Int)≤(k:Int):=by omega
    have ag:(k:Int)<(l.length:Int):=tO;obtain ⟨j,ej,hj⟩:=U k X;obtain ⟨b3,o3,rfl,a7,a2⟩:∃ b o,d=some ⟨b,o,none⟩∧b<w.heap.size∧(∀ i j,i<x.hands.length→j<14→w.cell? ⟨b,o+i*14+j,none⟩=some (fO x.hands i j)):=by
     rcases H3.out with Y|Y
     ·omega
     ·exact Y
    have c1:wr.cell? ⟨b3,o3+j*14+1,none⟩=some (.int .i64 (aJ x (j:Int)).code):=(hB.cell (p:=⟨b3,o3+j*14+1,none⟩) a7).trans ((a2 j 1 hj tO).trans zI);clear a2;obtain ⟨lb,lo,rfl,ah,a3⟩:∃ b o,la=some ⟨b,o,none⟩∧b<wr.heap.size∧(∀ i j,i<l.length→j<1→wr.cell? ⟨b,o+i*1+j,none⟩=some (lG l i j)):=by
     rcases LS.out with Y|Y
     ·omega
     ·exact Y
    have c2:wr.cell? ⟨lb,lo+k,none⟩=some (.int .i64 (j:Int)):=by have:=a3 k 0 X tO;simp only [lG,Nat.mul_one,Nat.add_zero,ej] at this;exact this
    clear a3;have ad:(0:Int)≤(j:Int):=tO;have ae:(j:Int)<(x.hands.length:Int):=tO;obtain ⟨e1,e2⟩:=a1 k j X ej;obtain ⟨e3,e4⟩:=a0 k;by_cases K:(aJ x (j:Int)).code=1
    ·rw [K] at c1
     rw [if_pos (by simp [K])] at e1 e2;go_wp2_with fail
     go_region
     go_wp2;go_roundw
     case rel=>exact ⟨k+1,by omega,by go_num,by rw [e1];go_num,by rw [e2];go_num,LS.out,F,I,zB⟩
     case measure=>simp [intOf];omega
    ·have ac:((aJ x (j:Int)).code == 1)=false:=by simpa using K
     rw [if_neg (by simp [K])] at e1 e2;go_wp2_with fail
     go_region
     go_wp2;go_roundw
     case rel=>exact ⟨k+1,by omega,by go_num,by rw [e1];go_num,by rw [e2];go_num,LS.out,F,I,zB⟩
     case measure=>simp [intOf];omega
   ·have:k=l.length:=by omega
    subst this;rw [show l.take l.length=l from List.take_length] at *;have V:=HE.out;clear HE KK PK a1 a0 U;generalize jU x l=sn at *;generalize lK x l=rn at *;generalize kl.length=kn at *;replace V:=aA V;go_wp2
    all_goals (go_ret;rw [V.out];refine ⟨bQ (Bool.eq_iff_iff.2 ?_),hB⟩;simp;omega)
end
end Go.Proofs.YtffhjmepfojhnaaGreat
