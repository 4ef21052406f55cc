/-
  Worlds are drawn in which some are parked, by the reference model: lists of at most 1048576 elements that lie in memory of the call's own.
-/
import Derived.Test.YtffhjmepfojhnaaGreatT04
import Derived.Test.YtffhjmepfojhnaaGreatT41
import Derived.Test.YtffhjmepfojhnaaGreatT40
import Derived.Test.YtffhjmepfojhnaaGreatT37
import Derived.Test.YtffhjmepfojhnaaGreatT29
set_option maxRecDepth 100000
set_option maxHeartbeats 8000000
set_option linter.unusedSimpArgs false
set_option linter.unusedVariables false
namespace Go.Proofs.YtffhjmepfojhnaaGreat
open _root_.Go.Proofs.Tryz
section
open Go.RowKit
attribute [local simp] dz
theorem BF (n:Nat):∀ x,eP x→eP (mQ n x).1∧(mQ n x).1.hands.length=x.hands.length:=by
 induction n with
 | zero=>exact fun x h=>⟨h,rfl⟩
 | succ n ih =>
  intro x h;unfold mQ;split
  ·exact ⟨h,rfl⟩
  ·split
   ·obtain ⟨h1,h2⟩:=yX h
    obtain ⟨a,b⟩:=ih _ h1;exact ⟨a,b.trans h2⟩
   ·exact ⟨h,rfl⟩
theorem wL {x:Wo} (h:eP x):qi x:=by
 obtain ⟨H,I,J,K⟩:=iX h;have F:=(nK h.ch).1;have G:=(nK h.ch).2;exact ⟨by omega,by omega,by have:=h.h6;omega,by have:=h.d;omega⟩
theorem QR {x:Wo} (h:dB x=true) (n:Nat):qi (setW x n).1:=by
 unfold setW;rw [h];simp only [if_true];split
 ·exact wL (BF _ _ ((eZ x).1 h)).1
 ·exact wL ((eZ x).1 h)
theorem TR {x:Wo} (h:dB x=true) (n:Nat):(setW x n).1.hands.length≤6:=by
 unfold setW;rw [h];simp only [if_true];have R:=(eZ x).1 h;split
 ·rw [(BF _ _ R).2];exact R.h6
 ·exact R.h6
theorem TS {w w':World} {B n k r:Nat} {a:Option Addr} {f:Nat→Nat→Value} (h:Seg w B a n k f) (K:B≤w.heap.size) (H:w.grownBy w' (some r)) (hr:(∀ F,a=some F→r<F.block)∨B≤r):Seg w' B a n k f:=by
 rcases h with h|⟨b,o,rfl,G,hc⟩
 ·exact .inl h
 ·have ne:some b≠some r:=by
   rcases hr with hr|hr
   ·have:=hr _ rfl;simp at this ⊢;omega
   ·simp;omega
  exact .inr ⟨b,o,rfl,G,fun i j I J=>(World.cell?_of_block (H.block b tO ne)).trans (hc i j I J)⟩
theorem xE {w w':World} {B r lo:Nat} {x:Wo} {a b d e:Option Addr} (h:lX w B x a b d e) (G:B≤w.heap.size) (H:w.grownBy w' (some r)) (I:Hi lo a) (J:Hi lo b) (K:Hi lo d) (L:Hi lo e) (hr:r<lo∨B≤r):lX w' B x a b d e:=by
 have f:∀ {a:Option Addr},Hi lo a→(∀ F,a=some F→r<F.block)∨B≤r:=fun i=>hr.imp (fun h F e=>by have:=i F e;omega) id
 exact ⟨TS h.1 G H (f I),TS h.2.1 G H (f J),TS h.2.2.1 G H (f K),TS h.2.2.2 G H (f L)⟩
theorem j6 {w w':World} {B:Nat} {x:Wo} {a b d e:Option Addr} (h:lX w B x a b d e) (F:B≤w.heap.size) (G:Below w w w'):lX w' B x a b d e:=⟨h.1.below (G.mono F),h.2.1.below (G.mono F),h.2.2.1.below (G.mono F),h.2.2.2.below (G.mono F)⟩
theorem je {w:World} {B:Nat} {x:Wo} {a b d e:Option Addr} (h:lX w B x a b d e) (F:B≤w.heap.size):lX w w x a b d e:=⟨h.1.more F,h.2.1.more F,h.2.2.1.more F,h.2.2.2.more F⟩
theorem yY (B g:Nat) (w:World) (hd:DS w B g):Calls prog 64 #[.pointer (some ⟨g,0,none⟩)] w fun r w'=>wK w' w r∧DS w' B g∧Gr g w w':=by
 have hl:=hd.lt;have ap:=hd.le;have a1:g<w.heap.size:=hl;have ah:some w.heap.size≠some g:=by simp;omega
 go_enter func64,ntmps64
 go_wp2_with fail;refine (BD B g  _ zD ).mono ?_;rintro _ F ⟨⟨x,a,b,d,e,p1,p2,p3,p4,rfl,S0,N,V,h6,i1,i2,i3,i4,F0⟩,a8,R⟩;have ab:Gr g w F:=gT lY R;have an:=a8.lt;have a2:=R.size;(try (simp at a2))
 have a2:=R.size;(try (simp at a2));have zz:=bM R (b:=w) tS dM;(try simp [go_sem] at zz);(try clear H L K U);have H:=zz;clear zz;obtain ⟨L,K,U⟩:=bO H;simp at i1 i2 i3 i4;have F1:∀ ad,a=some ad→some g≠some ad.block:=fun ad e9 k9=>by have:=i1 ad e9;simp at k9;omega
 have am:some F.heap.size≠some g:=by simp;omega
 have ak:w<F.heap.size:=tO;clear H K L;have a9:hp F w=some (.cells #[.int .i64 0,.int .i64 0,.int .i64 0,.int .i64 0,.slice none 0 0,.slice none 0 0,.slice none 0 0,.slice none 0 0,.int .i64 0] 35):=(bM R cK ah).trans qz;go_wp2_with fail;generalize Y:World.alloc F _=wb;have H:hp wb w=some (.cells #[.int .i64 0,.int .i64 0,.int .i64 0,.int .i64 0,.slice none 0 0,.slice none 0 0,.slice none 0 0,.slice none 0 0,.int .i64 0] 35):=by rw [← Y];simp [go_sem,a9,ak]
 have G:hp wb F=some (.cells #[x.ch.cap,x.ch.sent,x.ch.got,x.ch.fin,.slice a x.ch.cells p1,.slice b x.ch.words p2,.slice d x.hands p3,.slice e x.deals p4,x.now] 35):=by rw [← Y];exact heap_alloc_new _ _
 have a3:Below F F wb:=by rw [← Y];exact bL _ _
 have S:=j6 S0 (Nat.le_refl _) a3;replace F0:=F0.below a3;have ag:DS wb B g:=by rw [← Y];exact DS.alloc a8
 have ae:Gr g w wb:=by rw [← Y];exact gA ab
 have au:=a3.size;clear Y a9 S0 U a3;obtain ⟨L,K,U⟩:=bO H;obtain ⟨Z,X,a5⟩:=bO G;refine (jM B g 2 _ ag tO tO).mono ?_;rintro _ w2 ⟨⟨y2,rfl⟩,M,J⟩;have a6:Gr g w w2:=gT ae J;replace H:=(bM J (bO H).2.2 ah).trans H;replace G:=(bM J (bO G).2.2 am).trans G;replace S:=xE S tO J i1 i2 i3 i4 (.inl tO);replace F0:=F0.grown J F1;have ao:=J.size;clear L K U Z X a5;obtain ⟨L,K,U⟩:=bO H;obtain ⟨Z,X,a5⟩:=bO G;have S2:=aA (je S tO)
 cases y2 with
 | false =>
  have S:=S2.out;go_wp2;refine bodyPost_ret (v:=.agg #[x.ch.cap,x.ch.sent,x.ch.got,x.ch.fin,.slice a x.ch.cells p1,.slice b x.ch.words p2,.slice d x.hands p3,.slice e x.deals p4,x.now]) (by simp [results,results64,go_sem, *]) rfl ?_;generalize a0:World.setCell _ _ _=W';refine qm (x:=x) (W:=w2) M a6 (by rw [← a0];exact zG) a1 S N V h6 i1 i2 i3 i4 F0
 | true =>
  go_wp2_with fail;obtain ⟨s1,s2,s3,s4⟩:=S2.out
  obtain ⟨n1,n2,n3,n4⟩:=N;have N0:pJ x a b d e p1 p2 p3 p4:=⟨n1,n2,n3,n4⟩;obtain ⟨l1,l2,l3,l4⟩:=V;have V:qi x:=⟨l1,l2,l3,l4⟩;refine (eY x a b d e p1 p2 p3 p4 _ s1 s2 s3 s4 tO tO).mono ?_;rintro _ w4 ⟨rfl,I⟩;have O:DS w4 B g:=M.keep (I.block g M.lt) (I.mono (by have:=M.lt;have:=M.le;omega));have a7:Gr g w w4:=gB a6 I;have S4:=aA (je (j6 S tO I) (by have:=I.size;omega));replace F0:=F0.below I;replace H:=iC H I
  replace G:=iC G I;have aq:=I.size;clear L K U Z X a5 s1 s2 s3 s4 S2 S I;obtain ⟨L,K,U⟩:=bO H;obtain ⟨Z,X,a5⟩:=bO G;cases hk:dB x with
  | false =>
   have S:=S4.out;go_wp2;refine bodyPost_ret (v:=.agg #[x.ch.cap,x.ch.sent,x.ch.got,x.ch.fin,.slice a x.ch.cells p1,.slice b x.ch.words p2,.slice d x.hands p3,.slice e x.deals p4,x.now]) (by simp [results,results64,go_sem, *]) rfl ?_;generalize a0:World.setCell _ _ _=W';refine qm (x:=x) (W:=w4) O a7 (by rw [← a0];exact zG) a1 S N0 V h6 i1 i2 i3 i4 F0
  | true =>
   obtain ⟨s1,s2,s3,s4⟩:=S4.out;go_wp2_with fail;refine (uP x 200 a b d e p1 p2 p3 p4 _ s1 n1 s2 n2 s3 n3 s4 n4 tO tO tO tO hk tO tO).mono ?_;rintro _ w6 ⟨⟨u1,u2,u3,u4,rfl,HO⟩,T⟩;have ly:qi (setW x 200).1:=QR hk 200;have al:(setW x 200).1.hands.length≤6:=TR hk 200;generalize (setW x 200).1=y at *;generalize (setW x 200).2=yn at *;have af:DS w6 B g:=O.keep (T.block g O.lt) (T.mono (by have:=O.lt;have:=O.le;omega))
   have ac:Gr g w w6:=gB a7 T;replace H:=iC H T;replace G:=iC G T;have ar:=T.size;clear L K Z X s1 s2 s3 s4 S4 T;obtain ⟨L,K,_⟩:=bO H;obtain ⟨Z,X,_⟩:=bO G;obtain ⟨ya,yp,rfl,_⟩:=aF.seg HO.1;obtain ⟨yb,yq,rfl,_⟩:=aI.seg HO.2.1;obtain ⟨yd,yr,rfl,_⟩:=dY.seg HO.2.2.1;obtain ⟨ye,ys,rfl,_⟩:=gU.seg HO.2.2.2;have gb:w6.grownBy (((((((((w6.setCell ⟨F,0,none⟩ (.int .i64 y.ch.cap)).setCell ⟨F,1,none⟩ (.int .i64 y.ch.sent)).setCell ⟨F,2,none⟩ (.int .i64 y.ch.got)).setCell ⟨F,3,none⟩ (.int .i64 y.ch.fin)).setCell ⟨F,4,none⟩ (.slice ya y.ch.cells yp)).setCell ⟨F,5,none⟩ (.slice yb y.ch.words yq)).setCell ⟨F,6,none⟩ (.slice yd y.hands yr)).setCell ⟨F,7,none⟩ (.slice ye y.deals ys)).setCell ⟨F,8,none⟩ (.int .i64 y.now)) (some F.heap.size):=gS (gS (gS (gS (gS (gS (gS (gS (gS (gR _ _) (.inl rfl)) (.inl rfl)) (.inl rfl)) (.inl rfl)) (.inl rfl)) (.inl rfl)) (.inl rfl)) (.inl rfl)) (.inl rfl)
   have aa:dG (((((((((w6.setCell ⟨F,0,none⟩ (.int .i64 y.ch.cap)).setCell ⟨F,1,none⟩ (.int .i64 y.ch.sent)).setCell ⟨F,2,none⟩ (.int .i64 y.ch.got)).setCell ⟨F,3,none⟩ (.int .i64 y.ch.fin)).setCell ⟨F,4,none⟩ (.slice ya y.ch.cells yp)).setCell ⟨F,5,none⟩ (.slice yb y.ch.words yq)).setCell ⟨F,6,none⟩ (.slice yd y.hands yr)).setCell ⟨F,7,none⟩ (.slice ye y.deals ys)).setCell ⟨F,8,none⟩ (.int .i64 y.now)) w4 (.slice ya y.ch.cells yp) (.slice yb y.ch.words yq) (.slice yd y.hands yr) (.slice ye y.deals ys) y:=⟨HO.1.kept gb (.inr fun e9=>fe HO.1 G cB _ e9 rfl),HO.2.1.kept gb (.inr fun e9=>fe HO.2.1 G cB _ e9 rfl),HO.2.2.1.kept gb (.inr fun e9=>fe HO.2.2.1 G cB _ e9 rfl),HO.2.2.2.kept gb (.inr fun e9=>fe HO.2.2.2 G cB _ e9 rfl)⟩
   have aj:DS (((((((((w6.setCell ⟨F,0,none⟩ (.int .i64 y.ch.cap)).setCell ⟨F,1,none⟩ (.int .i64 y.ch.sent)).setCell ⟨F,2,none⟩ (.int .i64 y.ch.got)).setCell ⟨F,3,none⟩ (.int .i64 y.ch.fin)).setCell ⟨F,4,none⟩ (.slice ya y.ch.cells yp)).setCell ⟨F,5,none⟩ (.slice yb y.ch.words yq)).setCell ⟨F,6,none⟩ (.slice yd y.hands yr)).setCell ⟨F,7,none⟩ (.slice ye y.deals ys)).setCell ⟨F,8,none⟩ (.int .i64 y.now)) B g:=af.grown gb (fun k hk=>by simp at hk;omega)
   have ai:Gr g w (((((((((w6.setCell ⟨F,0,none⟩ (.int .i64 y.ch.cap)).setCell ⟨F,1,none⟩ (.int .i64 y.ch.sent)).setCell ⟨F,2,none⟩ (.int .i64 y.ch.got)).setCell ⟨F,3,none⟩ (.int .i64 y.ch.fin)).setCell ⟨F,4,none⟩ (.slice ya y.ch.cells yp)).setCell ⟨F,5,none⟩ (.slice yb y.ch.words yq)).setCell ⟨F,6,none⟩ (.slice yd y.hands yr)).setCell ⟨F,7,none⟩ (.slice ye y.deals ys)).setCell ⟨F,8,none⟩ (.int .i64 y.now)):=ac.grown gb (fun k hk=>by simp at hk;omega)
   obtain ⟨S9,N9,j1,j2,j3,j4⟩:=mZ aa;have a4:∀ {a:Option Addr},Hi w4 a→Hi (w+1) a:=fun h ad e9=>by have:=h ad e9;omega
   have aw:w<w6.heap.size:=tO;have av:F<w6.heap.size:=tO;go_wp2;refine bodyPost_ret (v:=.agg #[y.ch.cap,y.ch.sent,y.ch.got,y.ch.fin,.slice ya y.ch.cells yp,.slice yb y.ch.words yq,.slice yd y.hands yr,.slice ye y.deals ys,y.now]) (by simp [results,results64,go_sem, *]) rfl ?_;generalize a0:World.setCell _ _ _=W';refine qm (x:=y) (W:=(((((((((w6.setCell ⟨F,0,none⟩ (.int .i64 y.ch.cap)).setCell ⟨F,1,none⟩ (.int .i64 y.ch.sent)).setCell ⟨F,2,none⟩ (.int .i64 y.ch.got)).setCell ⟨F,3,none⟩ (.int .i64 y.ch.fin)).setCell ⟨F,4,none⟩ (.slice ya y.ch.cells yp)).setCell ⟨F,5,none⟩ (.slice yb y.ch.words yq)).setCell ⟨F,6,none⟩ (.slice yd y.hands yr)).setCell ⟨F,7,none⟩ (.slice ye y.deals ys)).setCell ⟨F,8,none⟩ (.int .i64 y.now))) aj ai (by rw [← a0];exact zG) a1 S9 N9 ly al (a4 j1) (a4 j2) (a4 j3) (a4 j4) (Fz.own aa.1)
theorem Oq {w W H:World} {x:Wo} {a b d e:Option Addr} {K M p3 O:Nat} (R:Below w w W) (gr:W.grownBy H (some w.heap.size)) (S:lX W W x a b d e) (N:pJ x a b d e K M p3 O) (L:qi x) (h6:x.hands.length≤6) (J:Hi (w+1) a) (T:Hi (w+1) b) (G:Hi (w+1) d) (U:Hi (w+1) e) (F:Fz W x.ch.cells a) :
  wK H w (.returned (.agg #[x.ch.cap,x.ch.sent,x.ch.got,x.ch.fin,.slice a x.ch.cells K,.slice b x.ch.words M,.slice d x.hands p3,.slice e x.deals O,x.now]))∧Below w w H:=by
 have lo:∀ {a:Option Addr},Hi (w+1) a→Hi w a:=fun h I e=>by have:=h I e;omega
 have S':=je (xE S (Nat.le_refl _) gr J T G U (.inl tO)) gr.size;exact ⟨⟨x,a,b,d,e,K,M,p3,O,rfl,S',N,L,h6,lo J,lo T,lo G,lo U,F.grown gr (fun I V Y=>by have:=J I V;simp at Y;omega)⟩,mO R gr R.size (fun k X=>by simp at X;omega)⟩
theorem zm (n cap:Nat) (X:Option Addr) (bs:Nat→Int) (w:World) (h:Code w w X n bs) :
  Calls prog 30 #[.slice X n cap] w fun r w'=>wK w' w r∧Below w w w':=by
 go_enter func30,ntmps30
 go_wp2_with fail;refine (KL w _ _ _ bs _ (h.below zB) fK).mono ?_;rintro _ T ⟨g,rfl,J,L,F⟩;have Y:Below w w T:=bT zB F;have Z:=J.lt;have O:=F.size;(try (simp at O));(try (simp at L));have:=fun o=>F.cell (p:=⟨w,o,none⟩) fK;have:=fun o=>F.frozen (p:=⟨w,o,none⟩) fK;have:w<T.heap.size:=tO;have:w≤T.heap.size:=tO;have:w≤T.heap.size+1:=tO
 go_wp2_with fail;refine (yY w g  _ zD ).mono ?_;rintro _ U ⟨⟨x,a,b,d,e,p1,p2,p3,p4,rfl,S,N,M,h6,i1,i2,i3,i4,F0⟩,K,G⟩;have I:Below w w U:=bG zB G tO;have a0:=K.lt;have R:=G.size;(try (simp at R));have:=mP G (b:=w) (fK) tO;have:=nT G (b:=w) (fK) tO;have:w<U.heap.size:=tO;have:w≤U.heap.size:=tO;have:w≤U.heap.size+1:=tO
 have H:∀ {a:Option Addr},Hi T a→Hi (w+1) a:=fun h ad e9=>by have:=h ad e9;omega
 have S2:=aA S;clear S;go_wp2;refine bodyPost_ret (v:=.agg #[x.ch.cap,x.ch.sent,x.ch.got,x.ch.fin,.slice a x.ch.cells p1,.slice b x.ch.words p2,.slice d x.hands p3,.slice e x.deals p4,x.now]) (by simp [results,results30,go_sem, *]) rfl ?_;generalize V:World.setCell _ _ _=W';exact Oq (x:=x) (W:=U) I (by rw [← V];exact zG) S2.out N M h6 (H i1) (H i2) (H i3) (H i4) F0
theorem lX.cell3 {w:World} {B G H z:Nat} {x:Wo} {b d e:Option Addr} (h:lX w B x (some ⟨G,H,none⟩) b d e) (J:z<x.ch.cells.length):∃ v,w.cell? ⟨G,H+z*3,none⟩=some v:=by
 rcases h.1 with L|⟨K,M,I,_,F⟩
 ·omega
 ·cases I
  exact ⟨_,F z 0 J tO⟩
theorem Fz.at {w:World} {n G H:Nat} (h:Fz w n (some ⟨G,H,none⟩)) (L:0<n) (o:Nat):w.frozen? ⟨G,o,none⟩=false:=by
 rcases h with K|⟨J,I,_,F⟩
 ·omega
 ·cases I
  exact F o
theorem Fz.set {w:World} {n:Nat} {a:Option Addr} (h:Fz w n a) (p:Addr) (v:Value):Fz (w.setCell p v) n a:=by
 rcases h with J|⟨H,I,F,G⟩
 ·exact .inl J
 ·exact .inr ⟨H,I,by simpa using F,fun o=>by simpa [go_sem] using G o⟩
theorem TT {w W:World} {x y:Wo} {a b d e:Option Addr} {K M p3 O:Nat} (hB:Below w w W) (S:lX W W y a b d e) (T:y.ch.cap=x.ch.cap∧y.ch.sent=x.ch.sent∧y.ch.got=x.ch.got∧y.ch.fin=x.ch.fin∧y.now=x.now) (U:y.ch.cells.length=x.ch.cells.length∧y.ch.words.length=x.ch.words.length∧y.hands.length=x.hands.length∧y.deals.length=x.deals.length) (N:pJ x a b d e K M p3 O) (L:qi x) (h6:x.hands.length≤6) (ha:Hi w a) (hb:Hi w b) (H:Hi w d) (he:Hi w e) (F:Fz W x.ch.cells a) :
  wK W w (.returned (.agg #[x.ch.cap,x.ch.sent,x.ch.got,x.ch.fin,.slice a x.ch.cells K,.slice b x.ch.words M,.slice d x.hands p3,.slice e x.deals O,x.now]))∧Below w w W:=by
 obtain ⟨V,X,Y,Z,f5⟩:=T;obtain ⟨I,R,G,J⟩:=U;refine ⟨⟨y,a,b,d,e,K,M,p3,O,by rw [V,X,Y,Z,f5,I,R,G,J],S,?_,?_,by rw [G];exact h6,ha,hb,H,he,by rw [I];exact F⟩,hB⟩
 ·exact ⟨N.1,N.2.1,by rw [G];exact N.2.2.1,by rw [J];exact N.2.2.2⟩
 ·exact ⟨by rw [I];exact L.1,by rw [R];exact L.2.1,by rw [G];exact L.2.2.1,by rw [J];exact L.2.2.2⟩
theorem BG (n cap:Nat) (ca:Option Addr) (bs:Nat→Int) (w:World) (h:Code w w ca n bs) :
  Calls prog 31 #[.slice ca n cap] w fun r w'=>wK w' w r∧Below w w w':=by
 go_enter func31,ntmps31
 go_wp2_with fail;refine (KL w _ _ _ bs _ (h.below zB) fK).mono ?_;rintro _ w1 ⟨g,rfl,a8,al,I⟩;have ah:Below w w w1:=bT zB I;have am:=a8.lt;have an:=I.size;(try (simp at an));(try (simp at al));have:=fun o=>I.cell (p:=⟨w,o,none⟩) fK;have:=fun o=>I.frozen (p:=⟨w,o,none⟩) fK;have:w<w1.heap.size:=tO;have:w≤w1.heap.size:=tO;have:w≤w1.heap.size+1:=tO
 go_wp2_with fail;refine (yY w g  _ zD ).mono ?_;rintro _ L ⟨⟨x,a,b,d,e,p1,p2,p3,p4,rfl,S0,N,hlen,h6,j1,j2,j3,j4,F0⟩,a0,J⟩;have a5:Below w w L:=bG zB J tO;have b6:=a0.lt;have ap:=J.size;(try (simp at ap));have:=mP J (b:=w) (fK) tO;have:=nT J (b:=w) (fK) tO;have:w<L.heap.size:=tO;have:w≤L.heap.size:=tO;have:w≤L.heap.size+1:=tO
 have a1:∀ {a:Option Addr},Hi w1 a→Hi (w+1) a:=fun h ad e9=>by have:=h ad e9;omega
 have i5:=a1 j1;have i6:=a1 j2;have i7:=a1 j3;have i8:=a1 j4;have ba:w.heap.size<g:=tO;go_wp2_with fail;generalize a4:World.alloc L _=wb;have H:Below L L wb:=by rw [← a4];exact bL _ _
 have U:hp wb L=some (.cells #[x.ch.cap,x.ch.sent,x.ch.got,x.ch.fin,.slice a x.ch.cells p1,.slice b x.ch.words p2,.slice d x.hands p3,.slice e x.deals p4,x.now] 35):=by rw [← a4];exact heap_alloc_new _ _
 have aa:DS wb w g:=by rw [← a4];exact DS.alloc a0
 clear a4;have a2:hp w1 w=some (.cells #[.int .i64 0,.int .i64 0,.int .i64 0,.int .i64 0,.slice none 0 0,.slice none 0 0,.slice none 0 0,.slice none 0 0,.int .i64 0] 35):=(o9 I cK).trans (heap_alloc_new w _);have ac:=(bM J (bO a2).2.2 dQ).trans a2;have X:=iC ac H;have S:=j6 S0 (Nat.le_refl _) H;replace F0:=F0.below H;have bc:=H.size;have a6:Below w w wb:=bT a5 H;have au:some w.heap.size≠some g:=by simp;omega
 have av:some L.heap.size≠some g:=by simp;omega
 have ae:g<w1.heap.size:=am;have F1:∀ ad,a=some ad→some g≠some ad.block:=fun ad e9 k9=>by have:=j1 ad e9;simp at k9;omega
 have V:∀ {a:Option Addr},Hi w1 a→Hi w a:=fun h ad e9=>by have:=h ad e9;omega
 have Z:L<wb.heap.size:=(bO U).2.2;clear S0 J I a2 ac H a0 a8 a5 ah a1;refine (jM w g 4 _ aa tO tO).mono ?_;rintro _ w5 ⟨⟨y5,rfl⟩,a9,G⟩;have UY:Below w w w5:=bG a6 G tO;replace X:=(bM G (bO X).2.2 au).trans X;replace U:=(bM G (bO U).2.2 av).trans U;replace S:=xE S tO G j1 j2 j3 j4 (.inl ae);replace F0:=F0.grown G F1;replace Z:L<w5.heap.size:=Nat.lt_of_lt_of_le Z G.size;clear aa G a6;have S5:=aA (je S (Nat.le_of_lt Z))
 obtain ⟨az,ag,ar⟩:=bO X;obtain ⟨ay,af,aq⟩:=bO U;cases y5 with
 | false =>
  exact Uz
 | true =>
  by_cases h3:3<x.ch.cells.length
  case neg =>
   have b2:decide ((3:Int)<(x.ch.cells.length:Int))=false:=by simp;omega
   exact Uz
  have b2:decide ((3:Int)<(x.ch.cells.length:Int))=true:=by simp;omega
  obtain ⟨M,O,rfl,b8⟩:∃ b o,a=some ⟨b,o,none⟩∧b<L.heap.size:=by
   rcases S.1 with h0|⟨b,o,e9,b3,_⟩
   ·omega
   ·exact ⟨b,o,e9,b3⟩
  have ak:=j1 _ rfl;simp only at ak;have i1:=j1;have i2:=j2;have i3:=j3;have i4:=j4;go_wp2_with fail;refine lh [[],[0],[0,1],[],[3],[0,1,2,3,4],[0,1,2,3,4,5],[0,1,2,3,4,5,6]] [18,19,20,21,22,23,24] (fun l s wx=>(DS wx w g)∧(Below w w wx)∧(L<wx.heap.size)∧(hp wx w=some (.cells #[.int .i64 0,.int .i64 0,.int .i64 0,.int .i64 0,.slice none 0 0,.slice none 0 0,.slice none 0 0,.slice none 0 0,.int .i64 0] 35))∧(hp wx L=some (.cells #[x.ch.cap,x.ch.sent,x.ch.got,x.ch.fin,.slice (some ⟨M,O,none⟩) x.ch.cells p1,.slice b x.ch.words p2,.slice d x.hands p3,.slice e x.deals p4,x.now] 35))∧(Fz wx x.ch.cells (some ⟨M,O,none⟩))∧(l 7=false→lX wx L x (some ⟨M,O,none⟩) b d e)∧(l 7=true→∃ y:Wo,lX wx L y (some ⟨M,O,none⟩) b d e∧(y.ch.cap=x.ch.cap∧y.ch.sent=x.ch.sent∧y.ch.got=x.ch.got∧y.ch.fin=x.ch.fin∧y.now=x.now)∧(y.ch.cells.length=x.ch.cells.length∧y.ch.words.length=x.ch.words.length∧y.hands.length=x.hands.length∧y.deals.length=x.deals.length))∧(l 0=true→s 18=.pointer (some ⟨L,0,none⟩))∧(l 1=true→s 19=.pointer (some ⟨L,4,none⟩))∧(l 2=true→s 20=.slice (some ⟨M,O,none⟩) x.ch.cells p1)∧(l 3=true→s 21=.pointer (some ⟨g,0,none⟩))∧(l 4=true→∃ z:Nat,z<4∧s 22=.int .i64 z)∧(l 5=true→∃ z:Nat,z<4∧s 23=.pointer (some ⟨M,O+z*3,none⟩))∧(l 6=true→∃ z:Nat,z<4∧s 24=.pointer (some ⟨M,O+z*3,none⟩))) (fun s=>⟨a9.drew,UY.drew,Z,X,U,F0,fun _=>S,fun h=>absurd h Bool.false_ne_true,fun h=>absurd h Bool.false_ne_true,fun h=>absurd h Bool.false_ne_true,fun h=>absurd h Bool.false_ne_true,fun h=>absurd h Bool.false_ne_true,fun h=>absurd h Bool.false_ne_true,fun h=>absurd h Bool.false_ne_true,fun h=>absurd h Bool.false_ne_true⟩) ?_ ?_
  refine ⟨?_,?_,?_,?_,?_,?_,?_,?_,trivial⟩;iterate 8 (intro l s wx hl hd T F K hK;rotate_left)
  ·intro l s wf a7 F
   have ai:=F.2.1;have b1:=F.2.2.2.1;have b0:=F.2.2.2.2.1;have aj:=F.2.2.1;have Ff:=F.2.2.2.2.2.1;obtain ⟨y,ax,e1,e2⟩:=F.2.2.2.2.2.2.2.1 (a7 7 rfl);have SF:=aA (je ax (Nat.le_of_lt aj));have b7:=aj;clear F a7 ax X U S S5 az ag ar ay af aq F0 Z UY a9;obtain ⟨az,ag,ar⟩:=bO b1;obtain ⟨ay,af,aq⟩:=bO b0;go_wp2;refine bodyPost_ret (v:=.agg #[x.ch.cap,x.ch.sent,x.ch.got,x.ch.fin,.slice (some ⟨M,O,none⟩) x.ch.cells p1,.slice b x.ch.words p2,.slice d x.hands p3,.slice e x.deals p4,x.now]) (by simp [results,results31,go_sem, *]) rfl ?_
   generalize hWf:World.setCell _ _ _=W';have a3:wf.grownBy W' (some w.heap.size):=by rw [← hWf];exact zG
   exact TT (mO ai a3 ai.size (fun k hk=>by simp at hk;omega)) (je (xE SF.out (Nat.le_refl _) a3 i5 i6 i7 i8 (.inl tO)) a3.size) e1 e2 N hlen h6 (V j1) (V j2) (V j3) (V j4) (Ff.grown a3 (fun ad e9 k9=>by have:=i5 ad e9;simp at k9;omega))
  ·go_simp
   refine hK.out (upd s 18 (.pointer (some ⟨L,0,none⟩))) _ _ gM ⟨F.out.1,F.out.2.1,F.out.2.2.1,F.out.2.2.2.1,F.out.2.2.2.2.1,F.out.2.2.2.2.2.1,F.out.2.2.2.2.2.2.1,F.out.2.2.2.2.2.2.2.1,fun _=>rfl,fun h=>absurd h (by rw [show upd l 0 true 1=l 1 from rfl,T 1 rfl];exact Bool.false_ne_true),fun h=>absurd h (by rw [show upd l 0 true 2=l 2 from rfl,T 2 rfl];exact Bool.false_ne_true),fun h=>(F.out.2.2.2.2.2.2.2.2.2.2.2.1 h),fun h=>(F.out.2.2.2.2.2.2.2.2.2.2.2.2.1 h),fun h=>absurd h (by rw [show upd l 0 true 5=l 5 from rfl,T 5 rfl];exact Bool.false_ne_true),fun h=>absurd h (by rw [show upd l 0 true 6=l 6 from rfl,T 6 rfl];exact Bool.false_ne_true)⟩
  ·have e0:=(F.out.2.2.2.2.2.2.2.2.1 (hd 0 rfl))
   go_simp;refine hK.out (upd s 19 (.pointer (some ⟨L,4,none⟩))) _ _ yj ⟨F.out.1,F.out.2.1,F.out.2.2.1,F.out.2.2.2.1,F.out.2.2.2.2.1,F.out.2.2.2.2.2.1,F.out.2.2.2.2.2.2.1,F.out.2.2.2.2.2.2.2.1,fun h=>(F.out.2.2.2.2.2.2.2.2.1 h),fun _=>rfl,fun h=>absurd h (by rw [show upd l 1 true 2=l 2 from rfl,T 2 rfl];exact Bool.false_ne_true),fun h=>(F.out.2.2.2.2.2.2.2.2.2.2.2.1 h),fun h=>(F.out.2.2.2.2.2.2.2.2.2.2.2.2.1 h),fun h=>absurd h (by rw [show upd l 1 true 5=l 5 from rfl,T 5 rfl];exact Bool.false_ne_true),fun h=>absurd h (by rw [show upd l 1 true 6=l 6 from rfl,T 6 rfl];exact Bool.false_ne_true)⟩
  ·have e1:=(F.out.2.2.2.2.2.2.2.2.2.1 (hd 1 rfl))
   have q:=(bO F.out.2.2.2.2.1).1 4;go_simp;refine hK.out (upd s 20 (.slice (some ⟨M,O,none⟩) x.ch.cells p1)) _ _ pQ ⟨F.out.1,F.out.2.1,F.out.2.2.1,F.out.2.2.2.1,F.out.2.2.2.2.1,F.out.2.2.2.2.2.1,F.out.2.2.2.2.2.2.1,F.out.2.2.2.2.2.2.2.1,fun h=>(F.out.2.2.2.2.2.2.2.2.1 h),fun h=>(F.out.2.2.2.2.2.2.2.2.2.1 h),fun _=>rfl,fun h=>(F.out.2.2.2.2.2.2.2.2.2.2.2.1 h),fun h=>(F.out.2.2.2.2.2.2.2.2.2.2.2.2.1 h),fun h=>absurd h (by rw [show upd l 2 true 5=l 5 from rfl,T 5 rfl];exact Bool.false_ne_true),fun h=>absurd h (by rw [show upd l 2 true 6=l 6 from rfl,T 6 rfl];exact Bool.false_ne_true)⟩
  ·go_simp
   refine hK.out (upd s 21 (.pointer (some ⟨g,0,none⟩))) _ _ gM ⟨F.out.1,F.out.2.1,F.out.2.2.1,F.out.2.2.2.1,F.out.2.2.2.2.1,F.out.2.2.2.2.2.1,F.out.2.2.2.2.2.2.1,F.out.2.2.2.2.2.2.2.1,fun h=>(F.out.2.2.2.2.2.2.2.2.1 h),fun h=>(F.out.2.2.2.2.2.2.2.2.2.1 h),fun h=>(F.out.2.2.2.2.2.2.2.2.2.2.1 h),fun _=>rfl,fun h=>absurd h (by rw [show upd l 3 true 4=l 4 from rfl,T 4 rfl];exact Bool.false_ne_true),fun h=>absurd h (by rw [show upd l 3 true 5=l 5 from rfl,T 5 rfl];exact Bool.false_ne_true),fun h=>absurd h (by rw [show upd l 3 true 6=l 6 from rfl,T 6 rfl];exact Bool.false_ne_true)⟩
  ·have e3:=(F.out.2.2.2.2.2.2.2.2.2.2.2.1 (hd 3 rfl))
   go_simp
   go_at_call 66
   refine (fJ w g 4 _ F.out.1 tO tO).mono ?_;rintro _ wy ⟨⟨z0,rfl,b5,be⟩,b4,R⟩;obtain ⟨z,rfl⟩:=Int.eq_ofNat_of_zero_le b5;refine hK.out (upd s 22 (.int .i64 z)) _ _ yh ⟨b4,bG F.out.2.1 R tO,Nat.lt_of_lt_of_le F.out.2.2.1 (World.grownBy.size R),(bM R (bO F.out.2.2.2.1).2.2 au).trans F.out.2.2.2.1,(bM R (bO F.out.2.2.2.2.1).2.2 av).trans F.out.2.2.2.2.1,Fz.grown F.out.2.2.2.2.2.1 R F1,fun h7=>xE (F.out.2.2.2.2.2.2.1 h7) (Nat.le_of_lt F.out.2.2.1) R i1 i2 i3 i4 (.inl ae),fun h7=>(let ⟨y,u1,u2⟩:=F.out.2.2.2.2.2.2.2.1 h7;⟨y,xE u1 (Nat.le_of_lt F.out.2.2.1) R i1 i2 i3 i4 (.inl ae),u2⟩),fun h=>(F.out.2.2.2.2.2.2.2.2.1 h),fun h=>(F.out.2.2.2.2.2.2.2.2.2.1 h),fun h=>(F.out.2.2.2.2.2.2.2.2.2.2.1 h),fun h=>(F.out.2.2.2.2.2.2.2.2.2.2.2.1 h),fun _=>⟨z,by omega,rfl⟩,fun h=>absurd h (by rw [show upd l 4 true 5=l 5 from rfl,T 5 rfl];exact Bool.false_ne_true),fun h=>absurd h (by rw [show upd l 4 true 6=l 6 from rfl,T 6 rfl];exact Bool.false_ne_true)⟩
  ·have e2:=(F.out.2.2.2.2.2.2.2.2.2.2.1 (hd 2 rfl))
   obtain ⟨z,hz,e4⟩:=(F.out.2.2.2.2.2.2.2.2.2.2.2.2.1 (hd 4 rfl));have bf:(0:Int)≤(z:Int):=tO;have bg:(z:Int)<(x.ch.cells.length:Int):=tO;go_simp;refine hK.out (upd s 23 (.pointer (some ⟨M,O+z*3,none⟩))) _ _ (by simp [aX,e2,e4] <;> rfl) ⟨F.out.1,F.out.2.1,F.out.2.2.1,F.out.2.2.2.1,F.out.2.2.2.2.1,F.out.2.2.2.2.2.1,F.out.2.2.2.2.2.2.1,F.out.2.2.2.2.2.2.2.1,fun h=>(F.out.2.2.2.2.2.2.2.2.1 h),fun h=>(F.out.2.2.2.2.2.2.2.2.2.1 h),fun h=>(F.out.2.2.2.2.2.2.2.2.2.2.1 h),fun h=>(F.out.2.2.2.2.2.2.2.2.2.2.2.1 h),fun h=>(F.out.2.2.2.2.2.2.2.2.2.2.2.2.1 h),fun _=>⟨z,hz,rfl⟩,fun h=>absurd h (by rw [show upd l 5 true 6=l 6 from rfl,T 6 rfl];exact Bool.false_ne_true)⟩
  ·obtain ⟨z,hz,e5⟩:=(F.out.2.2.2.2.2.2.2.2.2.2.2.2.2.1 (hd 5 rfl))
   go_simp;refine hK.out (upd s 24 (.pointer (some ⟨M,O+z*3,none⟩))) _ _ mK ⟨F.out.1,F.out.2.1,F.out.2.2.1,F.out.2.2.2.1,F.out.2.2.2.2.1,F.out.2.2.2.2.2.1,F.out.2.2.2.2.2.2.1,F.out.2.2.2.2.2.2.2.1,fun h=>(F.out.2.2.2.2.2.2.2.2.1 h),fun h=>(F.out.2.2.2.2.2.2.2.2.2.1 h),fun h=>(F.out.2.2.2.2.2.2.2.2.2.2.1 h),fun h=>(F.out.2.2.2.2.2.2.2.2.2.2.2.1 h),fun h=>(F.out.2.2.2.2.2.2.2.2.2.2.2.2.1 h),fun h=>(F.out.2.2.2.2.2.2.2.2.2.2.2.2.2.1 h),fun _=>⟨z,hz,rfl⟩⟩
  ·obtain ⟨z,hz,e6⟩:=(F.out.2.2.2.2.2.2.2.2.2.2.2.2.2.2 (hd 6 rfl))
   have aw:=F.out.2.2.2.2.2.2.1 hl;have bb:=F.out.2.2.1;obtain ⟨v9,hq⟩:=lX.cell3 aw (z:=z) tO;have b9:=Fz.at F.out.2.2.2.2.2.1 tO (O+z*3);have Y:wx.grownBy (wx.setCell ⟨M,O+z*3,none⟩ (.int .i64 2)) (some M):=gS (gR _ _) (.inl rfl);have F7:=Fz.set F.out.2.2.2.2.2.1 ⟨M,O+z*3,none⟩ (.int .i64 2);obtain ⟨y,u1,u2⟩:=lX.poke aw ⟨M,O+z*3,none⟩ 2;go_simp;refine hK.out (s) _ _ (by simp [aX,e6] <;> rfl) ⟨F.out.1.grown Y (fun k hk=>by simp at hk;omega),mO F.out.2.1 Y (Below.size F.out.2.1) (fun k hk=>by simp at hk;omega),Nat.lt_of_lt_of_le F.out.2.2.1 (World.grownBy.size Y),(bM Y (bO F.out.2.2.2.1).2.2 dQ).trans F.out.2.2.2.1,(bM Y (bO F.out.2.2.2.2.1).2.2 dQ).trans F.out.2.2.2.2.1,F7,fun h7=>nU h7 (show upd l 7 true 7=true from rfl),fun _=>⟨y,u1,u2⟩,fun h=>(F.out.2.2.2.2.2.2.2.2.1 h),fun h=>(F.out.2.2.2.2.2.2.2.2.2.1 h),fun h=>(F.out.2.2.2.2.2.2.2.2.2.2.1 h),fun h=>(F.out.2.2.2.2.2.2.2.2.2.2.2.1 h),fun h=>(F.out.2.2.2.2.2.2.2.2.2.2.2.2.1 h),fun h=>(F.out.2.2.2.2.2.2.2.2.2.2.2.2.2.1 h),fun h=>(F.out.2.2.2.2.2.2.2.2.2.2.2.2.2.2 h)⟩
end
end Go.Proofs.YtffhjmepfojhnaaGreat
