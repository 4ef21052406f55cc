/-
  Worlds are drawn in which some are parked, by the reference model: lists of at most 1048576 elements that lie in memory of the call's own.
-/
import Derived.Test.YtffhjmepfojhnaaGreatS01
import Derived.Test.YtffhjmepfojhnaaGreatS46
import Derived.Test.YtffhjmepfojhnaaGreatS43
import Derived.Test.YtffhjmepfojhnaaGreatS36
set_option maxRecDepth 100000
set_option maxHeartbeats 8000000
set_option linter.unusedSimpArgs false
set_option linter.unusedVariables false
namespace Go.Proofs.YtffhjmepfojhnaaGreat
open _root_.Go.Proofs.Tryz
open Go.RowKit
attribute [local simp] aP
theorem x9 (n:Nat):∀ x,fK x→fK (lK n x).1∧(lK n x).1.hands.length=x.hands.length:=by
 induction n with
 | zero=>exact fun x h=>⟨h,rfl⟩
 | succ n ih =>
  intro x h
  unfold lK
  split
  ·exact ⟨h,rfl⟩
  ·split
   ·obtain ⟨h1,m⟩:=uS h
    obtain ⟨a,b⟩:=ih _ h1
    exact ⟨a,b.trans m⟩
   ·exact ⟨h,rfl⟩
theorem rP {x:Wo} (h:fK x):jk x:=by
 obtain ⟨r,u,y,z⟩:=lZ h
 have m:=(lQ h.ch).1
 have q:=(lQ h.ch).2
 exact ⟨by omega,by omega,by have:=h.h6;omega,by have:=h.d;omega⟩
theorem Nr {x:Wo} (h:bC x=true) (n:Nat):jk (setW x n).1:=by
 unfold setW
 rw [h]
 simp only [if_true]
 split
 ·exact rP (x9 _ _ ((gP x).1 h)).1
 ·exact rP ((gP x).1 h)
theorem Py {x:Wo} (h:bC x=true) (n:Nat):(setW x n).1.hands.length≤6:=by
 unfold setW
 rw [h]
 simp only [if_true]
 have R:=(gP x).1 h
 split
 ·rw [(x9 _ _ R).2];exact R.h6
 ·exact R.h6
theorem Ns {w w':World} {B g r:Nat} (h:DS w B g) (m:w.grownBy w' (some r)) (y:r<g) (u:B≤r):DS w' B g :=
 h.keep (m.block g h.lt (by simp;omega)) (iN (Below.refl _ _) m (by have:=h.lt;have:=h.le;omega) (fun k q=>by simp at q;omega))
theorem uT (x:Wo):(fT x).length≤x.hands.length:=by
 unfold fT
 split
 ·exact oP x _
 ·simp
theorem Pz {w w':World} {B n k r:Nat} {a:Option Addr} {f:Nat→Nat→Value} (h:Seg w B a n k f) (E:B≤w.heap.size) (z:w.grownBy w' (some r)) (m:(∀ q,a=some q→r<q.block)∨B≤r):Seg w' B a n k f:=by
 rcases h with h|⟨b,o,rfl,u,y⟩
 ·exact .inl h
 ·have ne:some b≠some r:=by
   rcases m with m|m
   ·have:=m _ rfl;simp at this ⊢;omega
   ·simp;omega
  exact .inr ⟨b,o,rfl,u,fun i j A D=>(World.cell?_of_block (z.block b tO ne)).trans (y i j A D)⟩
theorem lI {w w':World} {B r lo:Nat} {x:Wo} {a b d e:Option Addr} (h:ic w B x a b d e) (q:B≤w.heap.size) (u:w.grownBy w' (some r)) (z:Hi lo a) (A:Hi lo b) (D:Hi lo d) (E:Hi lo e) (y:r<lo∨B≤r):ic w' B x a b d e:=by
 have f:∀ {a:Option Addr},Hi lo a→(∀ m,a=some m→r<m.block)∨B≤r:=fun i=>y.imp (fun h m e=>by have:=i m e;omega) id
 exact ⟨Pz h.1 q u (f z),Pz h.2.1 q u (f A),Pz h.2.2.1 q u (f D),Pz h.2.2.2 q u (f E)⟩
theorem iU {w w':World} {B:Nat} {x:Wo} {a b d e:Option Addr} (h:ic w B x a b d e) (m:B≤w.heap.size) (q:Below w w w'):ic w' B x a b d e:=⟨h.1.below (q.mono m),h.2.1.below (q.mono m),h.2.2.1.below (q.mono m),h.2.2.2.below (q.mono m)⟩
theorem gN {w:World} {B:Nat} {x:Wo} {a b d e:Option Addr} (h:ic w B x a b d e) (m:B≤w.heap.size):ic w w x a b d e:=⟨h.1.more m,h.2.1.more m,h.2.2.1.more m,h.2.2.2.more m⟩
theorem uU (B g:Nat) (w:World) (hd:DS w B g):Calls prog 64 #[.pointer (some ⟨g,0,none⟩)] w fun r w'=>xx w' w r∧DS w' B g∧Gr g w w':=by
 have hl:=hd.lt
 have al:=hd.le
 have U:g<w.heap.size:=hl
 have ab:some w.heap.size≠some g:=by simp;omega
 go_enter func64,ntmps64
 go_wp2_with fail;refine (xz B g  _ zD ).mono ?_;rintro _ m ⟨⟨x,a,b,d,e,p1,p2,p3,p4,rfl,S0,N,K,h6,i1,i2,i3,i4⟩,a3,G⟩;have a6:Gr g w m:=gT lh G;have aj:=a3.lt;have V:=G.size;(try (simp at V))
 have V:=G.size;(try (simp at V));have zz:=bE G (b:=w) tS (by assumption);(try simp [go_sem] at zz);(try clear u D z J);have u:=zz;clear zz;obtain ⟨D,z,J⟩:=bO u
 simp at i1 i2 i3 i4
 have ai:some m.heap.size≠some g:=by simp;omega
 have ag:w<m.heap.size:=by omega
 clear u z D
 have a4:hp m w=some (.cells #[.int .i64 0,.int .i64 0,.int .i64 0,.int .i64 0,.slice none 0 0,.slice none 0 0,.slice none 0 0,.slice none 0 0,.int .i64 0] 35):=(bE G (by simp) ab).trans (by simp [go_sem])
 go_wp2_with fail
 generalize M:World.alloc m _=wb
 have u:hp wb w=some (.cells #[.int .i64 0,.int .i64 0,.int .i64 0,.int .i64 0,.slice none 0 0,.slice none 0 0,.slice none 0 0,.slice none 0 0,.int .i64 0] 35):=by rw [← M];simp [go_sem,a4,ag]
 have q:hp wb m=some (.cells #[x.ch.cap,x.ch.sent,x.ch.got,x.ch.fin,.slice a x.ch.cells p1,.slice b x.ch.words p2,.slice d x.hands p3,.slice e x.deals p4,x.now] 35):=by rw [← M];exact heap_alloc_new _ _
 have a5:Below m m wb:=by rw [← M];exact aS _ _
 have S:=iU S0 (Nat.le_refl _) a5
 have aa:DS wb B g:=by rw [← M];exact DS.alloc a3
 have a8:Gr g w wb:=by rw [← M];exact gA a6
 have ao:=a5.size
 clear M a4 S0 J a5
 obtain ⟨D,z,J⟩:=bO u
 obtain ⟨O,L,a0⟩:=bO q
 refine (iL B g 2 _ aa tO tO).mono ?_
 rintro _ w2 ⟨⟨y2,rfl⟩,E,H⟩
 have a1:Gr g w w2:=gT a8 H
 replace u:=(bE H (bO u).2.2 ab).trans u
 replace q:=(bE H (bO q).2.2 ai).trans q
 replace S:=lI S tO H i1 i2 i3 i4 (.inl tO)
 have ak:=H.size
 clear D z J O L a0
 obtain ⟨D,z,J⟩:=bO u
 obtain ⟨O,L,a0⟩:=bO q
 have S2:=aA (gN S tO)
 cases y2 with
 | false =>
  have S:=S2.out
  go_wp2
  refine bodyPost_ret (v:=.agg #[x.ch.cap,x.ch.sent,x.ch.got,x.ch.fin,.slice a x.ch.cells p1,.slice b x.ch.words p2,.slice d x.hands p3,.slice e x.deals p4,x.now]) (by simp [results,results64,go_sem, *]) rfl ?_
  generalize T:World.setCell _ _ _=W'
  refine nM (x:=x) (W:=w2) E a1 (by rw [← T];exact zG) U S N K h6 i1 i2 i3 i4
 | true =>
  go_wp2_with fail
  obtain ⟨s1,s2,s3,s4⟩:=S2.out
  obtain ⟨n1,n2,n3,n4⟩:=N
  have N0:jl x a b d e p1 p2 p3 p4:=⟨n1,n2,n3,n4⟩
  obtain ⟨l1,l2,l3,l4⟩:=K
  have K:jk x:=⟨l1,l2,l3,l4⟩
  refine (fG x a b d e p1 p2 p3 p4 _ s1 s2 s3 s4 tO tO).mono ?_
  rintro _ w4 ⟨rfl,A⟩
  have F:DS w4 B g:=E.keep (A.block g E.lt) (A.mono (by have:=E.lt;have:=E.le;omega))
  have a2:Gr g w w4:=gB a1 A
  have S4:=aA (gN (iU S tO A) (by have:=A.size;omega))
  replace u:=eP u A
  replace q:=eP q A
  have am:=A.size
  clear D z J O L a0 s1 s2 s3 s4 S2 S A
  obtain ⟨D,z,J⟩:=bO u
  obtain ⟨O,L,a0⟩:=bO q
  cases hk:bC x with
  | false =>
   have S:=S4.out
   go_wp2
   refine bodyPost_ret (v:=.agg #[x.ch.cap,x.ch.sent,x.ch.got,x.ch.fin,.slice a x.ch.cells p1,.slice b x.ch.words p2,.slice d x.hands p3,.slice e x.deals p4,x.now]) (by simp [results,results64,go_sem, *]) rfl ?_
   generalize T:World.setCell _ _ _=W'
   refine nM (x:=x) (W:=w4) F a2 (by rw [← T];exact zG) U S N0 K h6 i1 i2 i3 i4
  | true =>
   obtain ⟨s1,s2,s3,s4⟩:=S4.out
   go_wp2_with fail
   refine (Eh x 200 a b d e p1 p2 p3 p4 _ s1 n1 s2 n2 s3 n3 s4 n4 tO tO tO tO hk tO tO).mono ?_
   rintro _ X ⟨⟨u1,u2,u3,u4,rfl,R⟩,I⟩
   have ly:jk (setW x 200).1:=Nr hk 200
   have ah:(setW x 200).1.hands.length≤6:=Py hk 200
   generalize (setW x 200).1=y at *
   generalize (setW x 200).2=yn at *
   have a9:DS X B g:=F.keep (I.block g F.lt) (I.mono (by have:=F.lt;have:=F.le;omega))
   have a7:Gr g w X:=gB a2 I
   replace u:=eP u I
   replace q:=eP q I
   have an:=I.size
   clear D z O L s1 s2 s3 s4 S4 I
   obtain ⟨D,z,_⟩:=bO u
   obtain ⟨O,L,_⟩:=bO q
   obtain ⟨ya,yp,rfl,_⟩:=aD.seg R.1
   obtain ⟨yb,yq,rfl,_⟩:=aG.seg R.2.1
   obtain ⟨yd,yr,rfl,_⟩:=cO.seg R.2.2.1
   obtain ⟨ye,ys,rfl,_⟩:=dV.seg R.2.2.2
   have gb:X.grownBy (((((((((X.setCell ⟨m,0,none⟩ (.int .i64 y.ch.cap)).setCell ⟨m,1,none⟩ (.int .i64 y.ch.sent)).setCell ⟨m,2,none⟩ (.int .i64 y.ch.got)).setCell ⟨m,3,none⟩ (.int .i64 y.ch.fin)).setCell ⟨m,4,none⟩ (.slice ya y.ch.cells yp)).setCell ⟨m,5,none⟩ (.slice yb y.ch.words yq)).setCell ⟨m,6,none⟩ (.slice yd y.hands yr)).setCell ⟨m,7,none⟩ (.slice ye y.deals ys)).setCell ⟨m,8,none⟩ (.int .i64 y.now)) (some m.heap.size):=gS (gS (gS (gS (gS (gS (gS (gS (gS (gR _ _) (.inl rfl)) (.inl rfl)) (.inl rfl)) (.inl rfl)) (.inl rfl)) (.inl rfl)) (.inl rfl)) (.inl rfl)) (.inl rfl)
   have ac:dO (((((((((X.setCell ⟨m,0,none⟩ (.int .i64 y.ch.cap)).setCell ⟨m,1,none⟩ (.int .i64 y.ch.sent)).setCell ⟨m,2,none⟩ (.int .i64 y.ch.got)).setCell ⟨m,3,none⟩ (.int .i64 y.ch.fin)).setCell ⟨m,4,none⟩ (.slice ya y.ch.cells yp)).setCell ⟨m,5,none⟩ (.slice yb y.ch.words yq)).setCell ⟨m,6,none⟩ (.slice yd y.hands yr)).setCell ⟨m,7,none⟩ (.slice ye y.deals ys)).setCell ⟨m,8,none⟩ (.int .i64 y.now)) w4 (.slice ya y.ch.cells yp) (.slice yb y.ch.words yq) (.slice yd y.hands yr) (.slice ye y.deals ys) y:=⟨R.1.kept gb (.inr fun Y=>bH R.1 q (by decide) _ Y rfl),R.2.1.kept gb (.inr fun Y=>bH R.2.1 q (by decide) _ Y rfl),R.2.2.1.kept gb (.inr fun Y=>bH R.2.2.1 q (by decide) _ Y rfl),R.2.2.2.kept gb (.inr fun Y=>bH R.2.2.2 q (by decide) _ Y rfl)⟩
   have af:DS (((((((((X.setCell ⟨m,0,none⟩ (.int .i64 y.ch.cap)).setCell ⟨m,1,none⟩ (.int .i64 y.ch.sent)).setCell ⟨m,2,none⟩ (.int .i64 y.ch.got)).setCell ⟨m,3,none⟩ (.int .i64 y.ch.fin)).setCell ⟨m,4,none⟩ (.slice ya y.ch.cells yp)).setCell ⟨m,5,none⟩ (.slice yb y.ch.words yq)).setCell ⟨m,6,none⟩ (.slice yd y.hands yr)).setCell ⟨m,7,none⟩ (.slice ye y.deals ys)).setCell ⟨m,8,none⟩ (.int .i64 y.now)) B g:=a9.grown gb (fun k hk=>by simp at hk;omega)
   have ae:Gr g w (((((((((X.setCell ⟨m,0,none⟩ (.int .i64 y.ch.cap)).setCell ⟨m,1,none⟩ (.int .i64 y.ch.sent)).setCell ⟨m,2,none⟩ (.int .i64 y.ch.got)).setCell ⟨m,3,none⟩ (.int .i64 y.ch.fin)).setCell ⟨m,4,none⟩ (.slice ya y.ch.cells yp)).setCell ⟨m,5,none⟩ (.slice yb y.ch.words yq)).setCell ⟨m,6,none⟩ (.slice yd y.hands yr)).setCell ⟨m,7,none⟩ (.slice ye y.deals ys)).setCell ⟨m,8,none⟩ (.int .i64 y.now)):=a7.grown gb (fun k hk=>by simp at hk;omega)
   obtain ⟨S9,N9,j1,j2,j3,j4⟩:=iG ac
   have Z:∀ {a:Option Addr},Hi w4 a→Hi (w+1) a:=fun h ad Y=>by have:=h ad Y;omega
   have aq:w<X.heap.size:=by omega
   have ap:m<X.heap.size:=by omega
   go_wp2
   refine bodyPost_ret (v:=.agg #[y.ch.cap,y.ch.sent,y.ch.got,y.ch.fin,.slice ya y.ch.cells yp,.slice yb y.ch.words yq,.slice yd y.hands yr,.slice ye y.deals ys,y.now]) (by simp [results,results64,go_sem, *]) rfl ?_
   generalize T:World.setCell _ _ _=W'
   refine nM (x:=y) (W:=(((((((((X.setCell ⟨m,0,none⟩ (.int .i64 y.ch.cap)).setCell ⟨m,1,none⟩ (.int .i64 y.ch.sent)).setCell ⟨m,2,none⟩ (.int .i64 y.ch.got)).setCell ⟨m,3,none⟩ (.int .i64 y.ch.fin)).setCell ⟨m,4,none⟩ (.slice ya y.ch.cells yp)).setCell ⟨m,5,none⟩ (.slice yb y.ch.words yq)).setCell ⟨m,6,none⟩ (.slice yd y.hands yr)).setCell ⟨m,7,none⟩ (.slice ye y.deals ys)).setCell ⟨m,8,none⟩ (.int .i64 y.now))) af ae (by rw [← T];exact zG) U S9 N9 ly ah (Z j1) (Z j2) (Z j3) (Z j4)
theorem Ku (a b:Int) (w:World):Calls prog 117 #[.int .i64 a,.int .i64 b] w fun r w'=>r=.returned (.int .i64 (if b<a then a else b))∧w=w':=by
 by_cases h:b<a
 ·rw [if_pos h]
  go_enter func117,ntmps117
  go_wp2
  go_ret
  exact ⟨rfl,rfl⟩
 ·rw [if_neg h]
  go_enter func117,ntmps117
  go_wp2
  go_ret
  exact ⟨rfl,rfl⟩
theorem Nt (k:Nat) (h:k≤6) (w:World):Calls prog 117 #[.int .i64 k,.int .i64 1] w fun r w'=>(∃ m:Int,r=.returned (.int .i64 m)∧1≤m∧m≤6)∧w=w' :=
 (Ku k 1 w).mono fun _ _ ⟨e,q⟩=>⟨⟨_,e,by split <;> omega,by split <;> omega⟩,q⟩
theorem qg (x:Wo) (V X Y:Value) (d:Option Addr) (p3 B g:Nat) (w:World) (L:DS w B g) (h6:x.hands.length≤6):Calls prog 67 #[.pointer (some ⟨g,0,none⟩),.agg #[x.ch.cap,x.ch.sent,x.ch.got,x.ch.fin,V,X,.slice d x.hands p3,Y,x.now]] w fun r w'=>(∃ n:Int,r=.returned (.int .i64 n))∧DS w' B g∧Gr g w w':=by
 have hl:=L.lt
 have O:=L.le
 go_enter func67,ntmps67
 go_wp2_with fail;refine (iL B g 10  _ zD  tO tO).mono ?_;rintro _ G ⟨⟨Z,rfl⟩,q,m⟩;have A:Gr g w G:=gT lh m;have M:=q.lt;have E:=m.size;(try (simp at E));have:=kT m (b:=w) ((by ((try simp);(try omega)))) tO;have:=lF m (b:=w) ((by ((try simp);(try omega)))) tO;have:w<G.heap.size:=tO;have:w≤G.heap.size:=tO;have:w≤G.heap.size+1:=tO
 cases Z with
 | true =>
  go_wp2_with fail;refine (kP B g (-1) 6  _ zD  tO tO tO tO).mono ?_;rintro _ K ⟨⟨z,rfl,_,_⟩,u,y⟩;have D:Gr g w K:=gT lh y;have N:=u.lt;have F:=y.size;(try (simp at F))
  go_wp2
  go_ret
  exact ⟨⟨_,rfl⟩,u,D⟩
 | false =>
  go_wp2_with fail
  refine (Nt x.hands h6 _).mono ?_
  rintro _ _ ⟨⟨U,rfl,R,T⟩,rfl⟩
  go_wp2_with fail
  refine (eG B g U _ q tO tO).mono ?_
  rintro _ K ⟨⟨z,rfl,_,_⟩,I,J⟩
  have H:Gr g w K:=gT A J
  go_wp2
  go_ret
  exact ⟨⟨_,rfl⟩,I,H⟩
theorem Qf {w W q:World} {x:Wo} {a b d e:Option Addr} {u y p3 z:Nat} (A:Below w w W) (r:W.grownBy q (some w.heap.size)) (S:ic W W x a b d e) (N:jl x a b d e u y p3 z) (L:jk x) (h6:x.hands.length≤6) (D:Hi (w+1) a) (E:Hi (w+1) b) (m:Hi (w+1) d) (F:Hi (w+1) e) :
  xx q w (.returned (.agg #[x.ch.cap,x.ch.sent,x.ch.got,x.ch.fin,.slice a x.ch.cells u,.slice b x.ch.words y,.slice d x.hands p3,.slice e x.deals z,x.now]))∧Below w w q:=by
 have lo:∀ {a:Option Addr},Hi (w+1) a→Hi w a:=fun h G e=>by have:=h G e;omega
 have S':=gN (lI S (Nat.le_refl _) r D E m F (.inl tO)) r.size
 exact ⟨⟨x,a,b,d,e,u,y,p3,z,rfl,S',N,L,h6,lo D,lo E,lo m,lo F⟩,iN A r A.size (fun k H=>by simp at H;omega)⟩
theorem ug (n cap:Nat) (K:Option Addr) (bs:Nat→Int) (w:World) (h:Code w w K n bs) :
  Calls prog 23 #[.slice K n cap] w fun r w'=>xx w' w r∧Below w w w':=by
 go_enter func23,ntmps23
 go_wp2_with fail;refine (Hl w _ _ _ bs _ (h.below zB) (by ((try simp);(try omega)))).mono ?_;rintro _ H ⟨g,rfl,z,D,m⟩;have L:Below w w H:=bT zB m;have M:=z.lt;have F:=m.size;(try (simp at F));(try (simp at D));have:=fun o=>m.cell (p:=⟨w,o,none⟩) (by ((try simp);(try omega)));have:=fun o=>m.frozen (p:=⟨w,o,none⟩) (by ((try simp);(try omega)));have:w<H.heap.size:=tO;have:w≤H.heap.size:=tO;have:w≤H.heap.size+1:=tO
 go_wp2_with fail;refine (uU w g  _ zD ).mono ?_;rintro _ I ⟨⟨x,a,b,d,e,p1,p2,p3,p4,rfl,S,N,E,h6,V,X,Y,Z⟩,A,q⟩;have y:Below w w I:=bG zB q tO;have O:=A.lt;have G:=q.size;(try (simp at G));have:=kT q (b:=w) ((by ((try simp);(try omega)))) tO;have:=lF q (b:=w) ((by ((try simp);(try omega)))) tO;have:w<I.heap.size:=tO;have:w≤I.heap.size:=tO;have:w≤I.heap.size+1:=tO
 have u:∀ {a:Option Addr},Hi H a→Hi (w+1) a:=fun h T U=>by have:=h T U;omega
 have R:=aA S
 clear S
 go_wp2
 refine bodyPost_ret (v:=.agg #[x.ch.cap,x.ch.sent,x.ch.got,x.ch.fin,.slice a x.ch.cells p1,.slice b x.ch.words p2,.slice d x.hands p3,.slice e x.deals p4,x.now]) (by simp [results,results23,go_sem, *]) rfl ?_
 generalize J:World.setCell _ _ _=W'
 exact Qf (x:=x) (W:=I) y (by rw [← J];exact zG) R.out N E h6 (u V) (u X) (u Y) (u Z)
def P5 (w':World) (lo:Nat) (r:Ending):Prop:=∃ (x:Wo) (a b d e:Option Addr) (p1 p2 p3 p4:Nat) (n:Int),r=.returned (.tuple #[.agg #[x.ch.cap,x.ch.sent,x.ch.got,x.ch.fin,.slice a x.ch.cells p1,.slice b x.ch.words p2,.slice d x.hands p3,.slice e x.deals p4,x.now],.int .i64 n])∧ic w' w' x a b d e∧jl x a b d e p1 p2 p3 p4∧jk x∧x.hands.length≤6∧Hi lo a∧Hi lo b∧Hi lo d∧Hi lo e
theorem aG.num1 {w:World} {lo p:Nat} {a:Option Addr} {l:List Int} (h:aG w lo (.slice a l.length p) l) (D:0<l.length):∃ g,a=some ⟨g,0,none⟩∧lo≤g∧g<w.heap.size∧∀ k,k<l.length→∃ n:Int,w.cell? ⟨g,k,none⟩=some (.int .i64 n):=by
 have q:=h
 rcases h.2 with ⟨_,z⟩|⟨g,cap,m,e,y,r,A,_⟩
 ·omega
 ·simp at e
  obtain ⟨rfl,rfl⟩:=e
  refine ⟨g,rfl,y,(Array.getElem?_eq_some_iff.1 r).1,fun k u=>⟨l.getD k 0,?_⟩⟩
  have:=q.cells (g:=g) rfl k (.int .i64 (l.getD k 0)) (by simp [ints,List.getD,u])
  rw [← this]
  congr 1
  by_cases e:k=0 <;> simp [Addr.add,e] <;> omega
theorem uY (n cap:Nat) (ca:Option Addr) (bs:Nat→Int) (w:World) (h:Code w w ca n bs) :
  Calls prog 20 #[.slice ca n cap] w fun r w'=>P5 w' w r∧Below w w w':=by
 go_enter func20,ntmps20
 go_wp2_with fail;refine (Hl w _ _ _ bs _ (h.below zB) (by ((try simp);(try omega)))).mono ?_;rintro _ w1 ⟨g,rfl,ak,aw,T⟩;have av:Below w w w1:=bT zB T;have ay:=ak.lt;have b3:=T.size;(try (simp at b3));(try (simp at aw));have:=fun o=>T.cell (p:=⟨w,o,none⟩) (by ((try simp);(try omega)));have:=fun o=>T.frozen (p:=⟨w,o,none⟩) (by ((try simp);(try omega)));have:w<w1.heap.size:=tO;have:w≤w1.heap.size:=tO;have:w≤w1.heap.size+1:=tO
 go_wp2_with fail;refine (uU w g  _ zD ).mono ?_;rintro _ M ⟨⟨x,a,b,d,e,G,H,p3,I,rfl,S0,N,an,h6,j1,j2,j3,j4⟩,a7,U⟩;have ag:Below w w M:=bG zB U tO;have az:=a7.lt;have b4:=U.size;(try (simp at b4));have:=kT U (b:=w) ((by ((try simp);(try omega)))) tO;have:=lF U (b:=w) ((by ((try simp);(try omega)))) tO;have:w<M.heap.size:=tO;have:w≤M.heap.size:=tO;have:w≤M.heap.size+1:=tO
 have a9:∀ {a:Option Addr},Hi w1 a→Hi (w+1) a:=fun h ad e9=>by have:=h ad e9;omega
 have i1:=a9 j1
 have i2:=a9 j2
 have i3:=a9 j3
 have i4:=a9 j4
 have aq:w.heap.size<g:=by omega
 go_wp2_with fail
 generalize ae:World.alloc M _=wb
 have Y:Below M M wb:=by rw [← ae];exact aS _ _
 have L:hp wb M=some (.cells #[x.ch.cap,x.ch.sent,x.ch.got,x.ch.fin,.slice a x.ch.cells G,.slice b x.ch.words H,.slice d x.hands p3,.slice e x.deals I,x.now] 35):=by rw [← ae];exact heap_alloc_new _ _
 have a0:DS wb w g:=by rw [← ae];exact DS.alloc a7
 clear ae
 have b2:M+1≤wb.heap.size:=(bO L).2.2
 have aa:hp w1 w=some (.cells #[.int .i64 0,.int .i64 0,.int .i64 0,.int .i64 0,.slice none 0 0,.slice none 0 0,.slice none 0 0,.slice none 0 0,.int .i64 0] 35):=(oW T (by simp)).trans (heap_alloc_new w _)
 have ao:=(bE U (bO aa).2.2 (by simp;omega)).trans aa
 have R:=eP ao Y
 have S:=iU S0 (Nat.le_refl _) Y
 have b1:=Y.size
 have aj:Below w w wb:=bT ag Y
 have SM:=gN S b1
 obtain ⟨s1,s2,s3,s4⟩:=SM
 obtain ⟨n1,n2,n3,n4⟩:=N
 have N0:jl x a b d e G H p3 I:=⟨n1,n2,n3,n4⟩
 have a2:=aA an
 obtain ⟨l1,l2,l3,l4⟩:=an
 refine (qX x a b d e G H p3 I _ s1 n1 s2 n2 s3 s4 tO tO tO).mono ?_
 rintro _ w4 ⟨⟨lv,rfl,OL⟩,Z⟩
 generalize b0:fT x=A at OL
 obtain ⟨la,lc,rfl,_⟩:=aG.seg OL
 have al:DS w4 w g:=a0.keep (Z.block g a0.lt) (Z.mono (by have:=a0.lt;have:=a0.le;omega))
 have ah:Below w w w4:=bT aj Z
 replace R:=eP R Z
 replace L:=eP L Z
 replace S:=iU S b1 Z
 have bf:=Z.size
 have h6':A.length≤6:=by rw [← b0];exact Nat.le_trans (uT x) h6
 have Qg:=aH OL (lo':=M+1) (by have:=(bO L).2.2;exact b2)
 clear b0 S0 s1 s2 s3 s4 n1 n2 n3 n4 l1 l2 l3 l4 U T aa ao Y a7 ak a0 aj ag av Z OL a9
 have af:some w.heap.size≠some g:=by simp;omega
 have bb:g<M.heap.size:=az
 have a6:M<w4.heap.size:=by omega
 have ac:g<w1.heap.size:=ay
 have a3:∀ {a:Option Addr},Hi w1 a→Hi w a:=fun h ad e9=>by have:=h ad e9;omega
 have Re:=a3 j1
 have Rf:=a3 j2
 have Rh:=a3 j3
 have Ri:=a3 j4
 by_cases ax:0<A.length
 ·obtain ⟨lb,ab,bc,_,_⟩:=aG.num1 Qg ax
  subst ab
  have b9:(0:Int)<(A.length:Int):=by omega
  go_wp2_with fail
  refine (iL w g 4 _ al tO tO).mono ?_
  rintro _ w5 ⟨⟨y5,rfl⟩,am,V⟩
  have ai:Below w w w5:=bG ah V tO
  replace R:=(bE V (bO R).2.2 af).trans R
  replace L:=(bE V (bO L).2.2 (by simp;omega)).trans L
  replace S:=lI S tO V j1 j2 j3 j4 (.inl ac)
  replace Qg:=World.ownsRow.kept Qg V (.inr (own_ne Qg tO))
  replace a6:M<w5.heap.size:=Nat.lt_of_lt_of_le a6 V.size
  cases y5 with
  | false =>
   go_wp2_with fail
   refine iT [[],[],[],[],[3],[2,3,4],[1,2,3,4,5],[1,2,3,4,5,6],[0],[1,2,3,4,5,6,7]] [21,22,23,24,25,26,27,28,3] (fun l s E=>(DS E w g)∧(Below w w E)∧(M<E.heap.size)∧(hp E w=some (.cells (cond (l 8) #[.int .i64 x.ch.cap,.int .i64 x.ch.sent,.int .i64 x.ch.got,.int .i64 x.ch.fin,.slice a x.ch.cells G,.slice b x.ch.words H,.slice d x.hands p3,.slice e x.deals I,.int .i64 x.now] #[.int .i64 0,.int .i64 0,.int .i64 0,.int .i64 0,.slice none 0 0,.slice none 0 0,.slice none 0 0,.slice none 0 0,.int .i64 0]) 35))∧(hp E M=some (.cells #[x.ch.cap,x.ch.sent,x.ch.got,x.ch.fin,.slice a x.ch.cells G,.slice b x.ch.words H,.slice d x.hands p3,.slice e x.deals I,x.now] 35))∧(ic E M x a b d e)∧(aG E (M+1) (.slice (some ⟨lb,0,none⟩) A.length lc) A)∧(l 0=true→s 21=.agg #[x.ch.cap,x.ch.sent,x.ch.got,x.ch.fin,.slice a x.ch.cells G,.slice b x.ch.words H,.slice d x.hands p3,.slice e x.deals I,x.now])∧(l 1=true→s 22=.slice (some ⟨lb,0,none⟩) A.length lc)∧(l 2=true→s 23=.pointer (some ⟨g,0,none⟩))∧(l 3=true→s 24=.slice (some ⟨lb,0,none⟩) A.length lc)∧(l 4=true→s 25=.int .i64 A.length)∧(l 5=true→∃ z:Nat,z<A.length∧s 26=.int .i64 z)∧(l 6=true→∃ z:Nat,z<A.length∧s 27=.pointer (some ⟨lb,z,none⟩))∧(l 7=true→∃ n:Int,s 28=.int .i64 n)∧(l 9=true→∃ n:Int,s 3=.int .i64 n)) (fun s=>⟨am.drew,ai.drew,a6,R,L,S,Qg.drew,nB,nB,nB,nB,nB,nB,nB,nB,nB⟩) ?_ ?_
   refine ⟨?_,?_,?_,?_,?_,?_,?_,?_,?_,?_,trivial⟩;iterate 10 (intro l s E hl X hn m K O;rotate_left)
   ·intro l s wf D m
    have a4:=m.2.1
    have F:=m.2.2.2.1
    have a5:=m.2.2.1
    have a1:=(jC m).2.1
    obtain ⟨nn,en⟩:=((jC (jD m)).2.2.2 (D 9 rfl))
    rw [D 8 rfl] at F
    dsimp only [cond] at F
    obtain ⟨b8,au,b6⟩:=bO F
    have SF:=aA (gN a1 (Nat.le_of_lt a5))
    simp only [en]
    clear m D a1 en R L S
    go_wp2
    refine bodyPost_ret (v:=.tuple #[.agg #[x.ch.cap,x.ch.sent,x.ch.got,x.ch.fin,.slice a x.ch.cells G,.slice b x.ch.words H,.slice d x.hands p3,.slice e x.deals I,x.now],.int .i64 nn]) (by simp [results,results20,go_sem, *]) rfl ⟨⟨x,a,b,d,e,G,H,p3,I,nn,rfl,SF.out,N0,a2.out,h6,Re,Rf,Rh,Ri⟩,a4⟩
   ·have q:=m.out.2.2.2.2.1
    obtain ⟨xq,fq,lq⟩:=bO q
    go_simp
    refine O.out (upd s 21 (.agg #[x.ch.cap,x.ch.sent,x.ch.got,x.ch.fin,.slice a x.ch.cells G,.slice b x.ch.words H,.slice d x.hands p3,.slice e x.deals I,x.now])) _ _ (by simp [aC] <;> rfl) (kC (kB (kA (kX (fun _=>rfl) id))) m.out)
   ·go_simp
    refine O.out (upd s 22 (.slice (some ⟨lb,0,none⟩) A.length lc)) _ _ (by simp [aC] <;> rfl) (kD (kX (fun _=>rfl) id) m.out)
   ·go_simp
    refine O.out (upd s 23 (.pointer (some ⟨g,0,none⟩))) _ _ (by simp [aC] <;> rfl) (kD (kA (kX (fun _=>rfl) id)) m.out)
   ·go_simp
    refine O.out (upd s 24 (.slice (some ⟨lb,0,none⟩) A.length lc)) _ _ (by simp [aC] <;> rfl) (kD (kB (kX (fun _=>rfl) id)) m.out)
   ·have e3:=((jD m.out).2.2.1 (X 3 rfl))
    go_simp
    refine O.out (upd s 25 (.int .i64 A.length)) _ _ (by simp [aC,e3] <;> rfl) (kD (kB (kA (kX (fun _=>rfl) id))) m.out)
   ·have e2:=((jD m.out).2.1 (X 2 rfl))
    have e4:=((jD m.out).2.2.2.1 (X 4 rfl))
    go_simp
    go_at_call 66
    refine (eG w g A.length _ m.out.1 tO tO).mono ?_
    rintro _ wy ⟨⟨z0,rfl,ba,bg⟩,a8,y⟩
    obtain ⟨z,rfl⟩:=Int.eq_ofNat_of_zero_le ba
    refine O.out (upd s 26 (.int .i64 z)) _ _ (by simp [aC,e2,e4] <;> rfl) (kX (a8) (kX (bG m.out.2.1 y tO) (kX (Nat.lt_of_lt_of_le m.out.2.2.1 (World.grownBy.size y)) (kX (by (have zz:=m.out.2.2.2.1);rw [show upd l 5 true 8=l 8 from rfl];exact (bE y (bO zz).2.2 af).trans zz) (kX ((bE y (bO m.out.2.2.2.2.1).2.2 (by simp;omega)).trans m.out.2.2.2.2.1) (kX (lI (jC m.out).2.1 (Nat.le_of_lt m.out.2.2.1) y j1 j2 j3 j4 (.inl ac)) (kX (World.ownsRow.kept (jC m.out).2.2.1 y (.inr (own_ne (jC m.out).2.2.1 tO))) (kC (kA (kX (fun _=>⟨z,by omega,rfl⟩) (kX (nU (hn 6 rfl)) (kX (nU (hn 7 rfl)) (fun _=>nU (hn 9 rfl))))))))))))) m.out)
   ·have e1:=((jD m.out).1 (X 1 rfl))
    obtain ⟨z,hz,e5⟩:=((jC (jD m.out)).1 (X 5 rfl))
    have bh:(0:Int)≤(z:Int):=by omega
    have bi:(z:Int)<(A.length:Int):=by omega
    go_simp
    refine O.out (upd s 27 (.pointer (some ⟨lb,z,none⟩))) _ _ (by simp [aC,e1,e5] <;> rfl) (kD (kC (kA (kX (fun _=>⟨z,hz,rfl⟩) id))) m.out)
   ·obtain ⟨z,hz,e6⟩:=((jC (jD m.out)).2.1 (X 6 rfl))
    obtain ⟨bj,ab,_,_,ap⟩:=aG.num1 (jC m.out).2.2.1 ax
    simp at ab
    subst ab
    obtain ⟨nv,be⟩:=ap z hz
    go_simp
    refine O.out (upd s 28 (.int .i64 nv)) _ _ (by simp [aC,e6] <;> rfl) (kD (kC (kB (kX (fun _=>⟨nv,rfl⟩) id))) m.out)
   ·have e0:=((jC m.out).2.2.2.1 (X 0 rfl))
    have J:=m.out.2.2.2.1
    rw [hl] at J
    dsimp only [cond] at J
    obtain ⟨b7,ar,b5⟩:=bO J
    go_simp
    have u:E.grownBy (((((((((E.setCell ⟨w,0,none⟩ (.int .i64 x.ch.cap)).setCell ⟨w,1,none⟩ (.int .i64 x.ch.sent)).setCell ⟨w,2,none⟩ (.int .i64 x.ch.got)).setCell ⟨w,3,none⟩ (.int .i64 x.ch.fin)).setCell ⟨w,4,none⟩ (.slice a x.ch.cells G)).setCell ⟨w,5,none⟩ (.slice b x.ch.words H)).setCell ⟨w,6,none⟩ (.slice d x.hands p3)).setCell ⟨w,7,none⟩ (.slice e x.deals I)).setCell ⟨w,8,none⟩ (.int .i64 x.now)) (some w.heap.size):=gS (gS (gS (gS (gS (gS (gS (gS (gS (gR _ _) (.inl rfl)) (.inl rfl)) (.inl rfl)) (.inl rfl)) (.inl rfl)) (.inl rfl)) (.inl rfl)) (.inl rfl)) (.inl rfl)
    have zn:hp (((((((((E.setCell ⟨w,0,none⟩ (.int .i64 x.ch.cap)).setCell ⟨w,1,none⟩ (.int .i64 x.ch.sent)).setCell ⟨w,2,none⟩ (.int .i64 x.ch.got)).setCell ⟨w,3,none⟩ (.int .i64 x.ch.fin)).setCell ⟨w,4,none⟩ (.slice a x.ch.cells G)).setCell ⟨w,5,none⟩ (.slice b x.ch.words H)).setCell ⟨w,6,none⟩ (.slice d x.hands p3)).setCell ⟨w,7,none⟩ (.slice e x.deals I)).setCell ⟨w,8,none⟩ (.int .i64 x.now)) w=some (.cells #[x.ch.cap,x.ch.sent,x.ch.got,x.ch.fin,.slice a x.ch.cells G,.slice b x.ch.words H,.slice d x.hands p3,.slice e x.deals I,x.now] 35):=by simp [gG,J,eZ]
    refine O.out (s) _ _ (by simp [aC,e0] <;> rfl) (kX (Ns m.out.1 u aq (Nat.le_refl _)) (kX (iN m.out.2.1 u (Below.size m.out.2.1) (fun k hk=>by simp at hk;omega)) (kX (Nat.lt_of_lt_of_le m.out.2.2.1 (World.grownBy.size u)) (kX (zn) (kX ((bE u (bO m.out.2.2.2.2.1).2.2 (by simp;omega)).trans m.out.2.2.2.2.1) (kX (lI (jC m.out).2.1 (Nat.le_of_lt m.out.2.2.1) u i1 i2 i3 i4 (.inl tO)) (kX (World.ownsRow.kept (jC m.out).2.2.1 u (.inr (own_ne (jC m.out).2.2.1 tO))) id)))))) m.out)
   ·obtain ⟨nv,e7⟩:=((jC (jD m.out)).2.2.1 (X 7 rfl))
    go_simp
    refine O.out (upd s 3 (.int .i64 nv)) _ _ (by simp [aC,e7] <;> rfl) (kD (kC (kB (kA (fun _=>fun _=>⟨nv,rfl⟩)))) m.out)
  | true =>
   go_wp2_with fail
   refine iT [[],[],[],[1,2],[0],[1,2,3]] [29,30,31,32,3] (fun l s E=>(DS E w g)∧(Below w w E)∧(M<E.heap.size)∧(hp E w=some (.cells (cond (l 4) #[.int .i64 x.ch.cap,.int .i64 x.ch.sent,.int .i64 x.ch.got,.int .i64 x.ch.fin,.slice a x.ch.cells G,.slice b x.ch.words H,.slice d x.hands p3,.slice e x.deals I,.int .i64 x.now] #[.int .i64 0,.int .i64 0,.int .i64 0,.int .i64 0,.slice none 0 0,.slice none 0 0,.slice none 0 0,.slice none 0 0,.int .i64 0]) 35))∧(hp E M=some (.cells #[x.ch.cap,x.ch.sent,x.ch.got,x.ch.fin,.slice a x.ch.cells G,.slice b x.ch.words H,.slice d x.hands p3,.slice e x.deals I,x.now] 35))∧(ic E M x a b d e)∧(aG E (M+1) (.slice (some ⟨lb,0,none⟩) A.length lc) A)∧(l 0=true→s 29=.agg #[x.ch.cap,x.ch.sent,x.ch.got,x.ch.fin,.slice a x.ch.cells G,.slice b x.ch.words H,.slice d x.hands p3,.slice e x.deals I,x.now])∧(l 1=true→s 30=.pointer (some ⟨g,0,none⟩))∧(l 2=true→s 31=.agg #[x.ch.cap,x.ch.sent,x.ch.got,x.ch.fin,.slice a x.ch.cells G,.slice b x.ch.words H,.slice d x.hands p3,.slice e x.deals I,x.now])∧(l 3=true→∃ n:Int,s 32=.int .i64 n)∧(l 5=true→∃ n:Int,s 3=.int .i64 n)) (fun s=>⟨am.drew,ai.drew,a6,R,L,S,Qg.drew,nB,nB,nB,nB,nB⟩) ?_ ?_
   refine ⟨?_,?_,?_,?_,?_,?_,trivial⟩;iterate 6 (intro l s E hl X hn m K O;rotate_left)
   ·intro l s wf D m
    have a4:=m.2.1
    have F:=m.2.2.2.1
    have a5:=m.2.2.1
    have a1:=(jC m).2.1
    obtain ⟨nn,en⟩:=((jD m).2.2.2 (D 5 rfl))
    rw [D 4 rfl] at F
    dsimp only [cond] at F
    obtain ⟨b8,au,b6⟩:=bO F
    have SF:=aA (gN a1 (Nat.le_of_lt a5))
    simp only [en]
    clear m D a1 en R L S
    go_wp2
    refine bodyPost_ret (v:=.tuple #[.agg #[x.ch.cap,x.ch.sent,x.ch.got,x.ch.fin,.slice a x.ch.cells G,.slice b x.ch.words H,.slice d x.hands p3,.slice e x.deals I,x.now],.int .i64 nn]) (by simp [results,results20,go_sem, *]) rfl ⟨⟨x,a,b,d,e,G,H,p3,I,nn,rfl,SF.out,N0,a2.out,h6,Re,Rf,Rh,Ri⟩,a4⟩
   ·have q:=m.out.2.2.2.2.1
    obtain ⟨xq,fq,lq⟩:=bO q
    go_simp
    refine O.out (upd s 29 (.agg #[x.ch.cap,x.ch.sent,x.ch.got,x.ch.fin,.slice a x.ch.cells G,.slice b x.ch.words H,.slice d x.hands p3,.slice e x.deals I,x.now])) _ _ (by simp [aC] <;> rfl) (kC (kB (kA (kX (fun _=>rfl) id))) m.out)
   ·go_simp
    refine O.out (upd s 30 (.pointer (some ⟨g,0,none⟩))) _ _ (by simp [aC] <;> rfl) (kD (kX (fun _=>rfl) id) m.out)
   ·have q:=m.out.2.2.2.2.1
    obtain ⟨xq,fq,lq⟩:=bO q
    go_simp
    refine O.out (upd s 31 (.agg #[x.ch.cap,x.ch.sent,x.ch.got,x.ch.fin,.slice a x.ch.cells G,.slice b x.ch.words H,.slice d x.hands p3,.slice e x.deals I,x.now])) _ _ (by simp [aC] <;> rfl) (kD (kA (kX (fun _=>rfl) id)) m.out)
   ·have e1:=((jD m.out).1 (X 1 rfl))
    have e2:=((jD m.out).2.1 (X 2 rfl))
    go_simp
    go_at_call 67
    refine (qg x _ _ _ d p3 w g _ m.out.1 h6).mono ?_
    rintro _ wy ⟨⟨nv,rfl⟩,a8,y⟩
    refine O.out (upd s 32 (.int .i64 nv)) _ _ (by simp [aC,e1,e2] <;> rfl) (kX (a8) (kX (bG m.out.2.1 y tO) (kX (Nat.lt_of_lt_of_le m.out.2.2.1 (World.grownBy.size y)) (kX (by (have zz:=m.out.2.2.2.1);rw [show upd l 3 true 4=l 4 from rfl];exact (bE y (bO zz).2.2 af).trans zz) (kX ((bE y (bO m.out.2.2.2.2.1).2.2 (by simp;omega)).trans m.out.2.2.2.2.1) (kX (lI (jC m.out).2.1 (Nat.le_of_lt m.out.2.2.1) y j1 j2 j3 j4 (.inl ac)) (kX (World.ownsRow.kept (jC m.out).2.2.1 y (.inr (own_ne (jC m.out).2.2.1 tO))) (kB (kA (kX (fun _=>⟨nv,rfl⟩) (fun _=>nU (hn 5 rfl))))))))))) m.out)
   ·have e0:=((jC m.out).2.2.2.1 (X 0 rfl))
    have J:=m.out.2.2.2.1
    rw [hl] at J
    dsimp only [cond] at J
    obtain ⟨b7,ar,b5⟩:=bO J
    go_simp
    have u:E.grownBy (((((((((E.setCell ⟨w,0,none⟩ (.int .i64 x.ch.cap)).setCell ⟨w,1,none⟩ (.int .i64 x.ch.sent)).setCell ⟨w,2,none⟩ (.int .i64 x.ch.got)).setCell ⟨w,3,none⟩ (.int .i64 x.ch.fin)).setCell ⟨w,4,none⟩ (.slice a x.ch.cells G)).setCell ⟨w,5,none⟩ (.slice b x.ch.words H)).setCell ⟨w,6,none⟩ (.slice d x.hands p3)).setCell ⟨w,7,none⟩ (.slice e x.deals I)).setCell ⟨w,8,none⟩ (.int .i64 x.now)) (some w.heap.size):=gS (gS (gS (gS (gS (gS (gS (gS (gS (gR _ _) (.inl rfl)) (.inl rfl)) (.inl rfl)) (.inl rfl)) (.inl rfl)) (.inl rfl)) (.inl rfl)) (.inl rfl)) (.inl rfl)
    have zn:hp (((((((((E.setCell ⟨w,0,none⟩ (.int .i64 x.ch.cap)).setCell ⟨w,1,none⟩ (.int .i64 x.ch.sent)).setCell ⟨w,2,none⟩ (.int .i64 x.ch.got)).setCell ⟨w,3,none⟩ (.int .i64 x.ch.fin)).setCell ⟨w,4,none⟩ (.slice a x.ch.cells G)).setCell ⟨w,5,none⟩ (.slice b x.ch.words H)).setCell ⟨w,6,none⟩ (.slice d x.hands p3)).setCell ⟨w,7,none⟩ (.slice e x.deals I)).setCell ⟨w,8,none⟩ (.int .i64 x.now)) w=some (.cells #[x.ch.cap,x.ch.sent,x.ch.got,x.ch.fin,.slice a x.ch.cells G,.slice b x.ch.words H,.slice d x.hands p3,.slice e x.deals I,x.now] 35):=by simp [gG,J,eZ]
    refine O.out (s) _ _ (by simp [aC,e0] <;> rfl) (kX (Ns m.out.1 u aq (Nat.le_refl _)) (kX (iN m.out.2.1 u (Below.size m.out.2.1) (fun k hk=>by simp at hk;omega)) (kX (Nat.lt_of_lt_of_le m.out.2.2.1 (World.grownBy.size u)) (kX (zn) (kX ((bE u (bO m.out.2.2.2.2.1).2.2 (by simp;omega)).trans m.out.2.2.2.2.1) (kX (lI (jC m.out).2.1 (Nat.le_of_lt m.out.2.2.1) u i1 i2 i3 i4 (.inl tO)) (kX (World.ownsRow.kept (jC m.out).2.2.1 u (.inr (own_ne (jC m.out).2.2.1 tO))) id)))))) m.out)
   ·obtain ⟨nv,e3⟩:=((jD m.out).2.2.1 (X 3 rfl))
    go_simp
    refine O.out (upd s 3 (.int .i64 nv)) _ _ (by simp [aC,e3] <;> rfl) (kD (kB (kA (fun _=>fun _=>⟨nv,rfl⟩))) m.out)
 ·have b9:¬ (0:Int)<(A.length:Int):=by omega
  go_wp2_with fail
  refine iT [[],[],[],[1,2],[0],[1,2,3]] [29,30,31,32,3] (fun l s E=>(DS E w g)∧(Below w w E)∧(M<E.heap.size)∧(hp E w=some (.cells (cond (l 4) #[.int .i64 x.ch.cap,.int .i64 x.ch.sent,.int .i64 x.ch.got,.int .i64 x.ch.fin,.slice a x.ch.cells G,.slice b x.ch.words H,.slice d x.hands p3,.slice e x.deals I,.int .i64 x.now] #[.int .i64 0,.int .i64 0,.int .i64 0,.int .i64 0,.slice none 0 0,.slice none 0 0,.slice none 0 0,.slice none 0 0,.int .i64 0]) 35))∧(hp E M=some (.cells #[x.ch.cap,x.ch.sent,x.ch.got,x.ch.fin,.slice a x.ch.cells G,.slice b x.ch.words H,.slice d x.hands p3,.slice e x.deals I,x.now] 35))∧(ic E M x a b d e)∧(aG E (M+1) (.slice la A.length lc) A)∧(l 0=true→s 29=.agg #[x.ch.cap,x.ch.sent,x.ch.got,x.ch.fin,.slice a x.ch.cells G,.slice b x.ch.words H,.slice d x.hands p3,.slice e x.deals I,x.now])∧(l 1=true→s 30=.pointer (some ⟨g,0,none⟩))∧(l 2=true→s 31=.agg #[x.ch.cap,x.ch.sent,x.ch.got,x.ch.fin,.slice a x.ch.cells G,.slice b x.ch.words H,.slice d x.hands p3,.slice e x.deals I,x.now])∧(l 3=true→∃ n:Int,s 32=.int .i64 n)∧(l 5=true→∃ n:Int,s 3=.int .i64 n)) (fun s=>⟨al.drew,ah.drew,a6,R,L,S,Qg.drew,nB,nB,nB,nB,nB⟩) ?_ ?_
  refine ⟨?_,?_,?_,?_,?_,?_,trivial⟩;iterate 6 (intro l s E hl X hn m K O;rotate_left)
  ·intro l s wf D m
   have a4:=m.2.1
   have F:=m.2.2.2.1
   have a5:=m.2.2.1
   have a1:=(jC m).2.1
   obtain ⟨nn,en⟩:=((jD m).2.2.2 (D 5 rfl))
   rw [D 4 rfl] at F
   dsimp only [cond] at F
   obtain ⟨b8,au,b6⟩:=bO F
   have SF:=aA (gN a1 (Nat.le_of_lt a5))
   simp only [en]
   clear m D a1 en R L S
   go_wp2
   refine bodyPost_ret (v:=.tuple #[.agg #[x.ch.cap,x.ch.sent,x.ch.got,x.ch.fin,.slice a x.ch.cells G,.slice b x.ch.words H,.slice d x.hands p3,.slice e x.deals I,x.now],.int .i64 nn]) (by simp [results,results20,go_sem, *]) rfl ⟨⟨x,a,b,d,e,G,H,p3,I,nn,rfl,SF.out,N0,a2.out,h6,Re,Rf,Rh,Ri⟩,a4⟩
  ·have q:=m.out.2.2.2.2.1
   obtain ⟨xq,fq,lq⟩:=bO q
   go_simp
   refine O.out (upd s 29 (.agg #[x.ch.cap,x.ch.sent,x.ch.got,x.ch.fin,.slice a x.ch.cells G,.slice b x.ch.words H,.slice d x.hands p3,.slice e x.deals I,x.now])) _ _ (by simp [aC] <;> rfl) (kC (kB (kA (kX (fun _=>rfl) id))) m.out)
  ·go_simp
   refine O.out (upd s 30 (.pointer (some ⟨g,0,none⟩))) _ _ (by simp [aC] <;> rfl) (kD (kX (fun _=>rfl) id) m.out)
  ·have q:=m.out.2.2.2.2.1
   obtain ⟨xq,fq,lq⟩:=bO q
   go_simp
   refine O.out (upd s 31 (.agg #[x.ch.cap,x.ch.sent,x.ch.got,x.ch.fin,.slice a x.ch.cells G,.slice b x.ch.words H,.slice d x.hands p3,.slice e x.deals I,x.now])) _ _ (by simp [aC] <;> rfl) (kD (kA (kX (fun _=>rfl) id)) m.out)
  ·have e1:=((jD m.out).1 (X 1 rfl))
   have e2:=((jD m.out).2.1 (X 2 rfl))
   go_simp
   go_at_call 67
   refine (qg x _ _ _ d p3 w g _ m.out.1 h6).mono ?_
   rintro _ wy ⟨⟨nv,rfl⟩,a8,y⟩
   refine O.out (upd s 32 (.int .i64 nv)) _ _ (by simp [aC,e1,e2] <;> rfl) (kX (a8) (kX (bG m.out.2.1 y tO) (kX (Nat.lt_of_lt_of_le m.out.2.2.1 (World.grownBy.size y)) (kX (by (have zz:=m.out.2.2.2.1);rw [show upd l 3 true 4=l 4 from rfl];exact (bE y (bO zz).2.2 af).trans zz) (kX ((bE y (bO m.out.2.2.2.2.1).2.2 (by simp;omega)).trans m.out.2.2.2.2.1) (kX (lI (jC m.out).2.1 (Nat.le_of_lt m.out.2.2.1) y j1 j2 j3 j4 (.inl ac)) (kX (World.ownsRow.kept (jC m.out).2.2.1 y (.inr (own_ne (jC m.out).2.2.1 tO))) (kB (kA (kX (fun _=>⟨nv,rfl⟩) (fun _=>nU (hn 5 rfl))))))))))) m.out)
  ·have e0:=((jC m.out).2.2.2.1 (X 0 rfl))
   have J:=m.out.2.2.2.1
   rw [hl] at J
   dsimp only [cond] at J
   obtain ⟨b7,ar,b5⟩:=bO J
   go_simp
   have u:E.grownBy (((((((((E.setCell ⟨w,0,none⟩ (.int .i64 x.ch.cap)).setCell ⟨w,1,none⟩ (.int .i64 x.ch.sent)).setCell ⟨w,2,none⟩ (.int .i64 x.ch.got)).setCell ⟨w,3,none⟩ (.int .i64 x.ch.fin)).setCell ⟨w,4,none⟩ (.slice a x.ch.cells G)).setCell ⟨w,5,none⟩ (.slice b x.ch.words H)).setCell ⟨w,6,none⟩ (.slice d x.hands p3)).setCell ⟨w,7,none⟩ (.slice e x.deals I)).setCell ⟨w,8,none⟩ (.int .i64 x.now)) (some w.heap.size):=gS (gS (gS (gS (gS (gS (gS (gS (gS (gR _ _) (.inl rfl)) (.inl rfl)) (.inl rfl)) (.inl rfl)) (.inl rfl)) (.inl rfl)) (.inl rfl)) (.inl rfl)) (.inl rfl)
   have zn:hp (((((((((E.setCell ⟨w,0,none⟩ (.int .i64 x.ch.cap)).setCell ⟨w,1,none⟩ (.int .i64 x.ch.sent)).setCell ⟨w,2,none⟩ (.int .i64 x.ch.got)).setCell ⟨w,3,none⟩ (.int .i64 x.ch.fin)).setCell ⟨w,4,none⟩ (.slice a x.ch.cells G)).setCell ⟨w,5,none⟩ (.slice b x.ch.words H)).setCell ⟨w,6,none⟩ (.slice d x.hands p3)).setCell ⟨w,7,none⟩ (.slice e x.deals I)).setCell ⟨w,8,none⟩ (.int .i64 x.now)) w=some (.cells #[x.ch.cap,x.ch.sent,x.ch.got,x.ch.fin,.slice a x.ch.cells G,.slice b x.ch.words H,.slice d x.hands p3,.slice e x.deals I,x.now] 35):=by simp [gG,J,eZ]
   refine O.out (s) _ _ (by simp [aC,e0] <;> rfl) (kX (Ns m.out.1 u aq (Nat.le_refl _)) (kX (iN m.out.2.1 u (Below.size m.out.2.1) (fun k hk=>by simp at hk;omega)) (kX (Nat.lt_of_lt_of_le m.out.2.2.1 (World.grownBy.size u)) (kX (zn) (kX ((bE u (bO m.out.2.2.2.2.1).2.2 (by simp;omega)).trans m.out.2.2.2.2.1) (kX (lI (jC m.out).2.1 (Nat.le_of_lt m.out.2.2.1) u i1 i2 i3 i4 (.inl tO)) (kX (World.ownsRow.kept (jC m.out).2.2.1 u (.inr (own_ne (jC m.out).2.2.1 tO))) id)))))) m.out)
  ·obtain ⟨nv,e3⟩:=((jD m.out).2.2.1 (X 3 rfl))
   go_simp
   refine O.out (upd s 3 (.int .i64 nv)) _ _ (by simp [aC,e3] <;> rfl) (kD (kB (kA (fun _=>fun _=>⟨nv,rfl⟩))) m.out)
end Go.Proofs.YtffhjmepfojhnaaGreat
