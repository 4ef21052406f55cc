/-
  The reference model's putting into a cell that is turned, on hands and channels that are kept whole; the lists are the call's own and hold at most 2 ^ 40 elements.
-/
import Derived.Test.YtffhjmepfojhnaaGreatS10
import Derived.Test.YtffhjmepfojhnaaGreatS13
import Derived.Deep.RegionHeld3
import Derived.Test.YtffhjmepfojhnaaGreatS07
import Derived.Deep.DeepCutAuto
import Derived.BigRegion
import Derived.Test.YtffhjmepfojhnaaGreatS04
import Derived.Test.YtffhjmepfojhnaaGreatS05
import Derived.Test.YtffhjmepfojhnaaGreatS08
import Derived.Test.YtffhjmepfojhnaaGreatS03
set_option maxRecDepth 100000
set_option maxHeartbeats 4000000
set_option linter.unusedSimpArgs false
set_option linter.unusedVariables false
namespace Go.Proofs.YtffhjmepfojhnaaGreat
open _root_.Go.Proofs.Tryz
section
open Go.RowKit
attribute [local simp] aP
attribute [local go_sem ↓] aQ bF aY bY aZ bZ aX bB aN aU
theorem CZ (c:Ch) (h:Ha) (L M:Value) (lo:Nat) (w:World) (h1:aD w lo L c.cells) (J:aG w lo M c.words) (a4:0≤h.cell) (a5:h.cell<c.cells.length) (G:h.seen=1) (Z:bQ c h.cell h.seen 2 0=false) :
    dG 201 c h L M lo w (jQ c h):=by
  obtain ⟨i,F⟩:∃ i:Nat,h.cell=(i:Int):=⟨h.cell.toNat,by omega⟩
  have hs:=G
  rw [F,hs] at Z
  have e:jQ c h=done (bK c i 1 2 0) { h with pos:=3,cell:=(i:Int),seen:=1 }:=by simp [jQ,hs,F,Z]
  rw [e]
  have hi:i<c.cells.length:=by omega
  have T:=aA fun W a b=>ko c i 1 2 0 L M lo W a b hi
  have D:=aA fun W=>bU (bK c i 1 2 0) { h with pos:=3,cell:=(i:Int),seen:=1 } L M lo W
  generalize done (bK c i 1 2 0) { h with pos:=3,cell:=(i:Int),seen:=1 }=x at *
  rw [Z] at T
  have b1:=kY h1
  have b2:=kY J
  have K:=nO b1
  have a6:=K w tO
  have a7:=K (w+1) tO
  have a8:=K (w+1+1) tO
  have a9:=K (w+1+1+1) tO
  have o1:=h1
  have o2:=J
  obtain ⟨O,q1,e1,_⟩:=h1.seg
  obtain ⟨R,q2,e2,_⟩:=J.seg
  subst e1 e2
  clear h1 J e G
  go_enter func201,ntmps201
  go_wp2_with fail;refine (T.out _ (zO o1 o1) (zO o2 o2)).mono ?_;rintro _ N ⟨rfl,p1,p2,q⟩;have H:=q.size;(try (simp at H));have r:=PM q (b:=w);(try simp [go_sem] at r);replace bX:=dW r;clear r;have E:=I6 (w:=w) zB q;clear q
  have a0:jI (Value.slice O c.cells q1).ownBlock (Value.slice R c.words q2).ownBlock w N:=mY E
  obtain ⟨k0,k1,k2,k3⟩:=mF (a:=w) (b:=N)
  have r1:aD N lo (.slice O c.cells q1) (bK c i 1 2 0).cells:=p1
  have r2:aG N lo (.slice R c.words q2) (bK c i 1 2 0).words:=p2
  go_wp2_with fail
  refine (D.out _ (zO r1 o1) (zO r2 o2)).mono ?_
  rintro _ w3 ⟨⟨y1,y2,rfl,z,A,U,V⟩,m⟩
  have a3:jI (Value.slice O c.cells q1).ownBlock (Value.slice R c.words q2).ownBlock w w3:=gU zN (dR m)
  have I:=m.size;(try simp at I);have r:=BL m (b:=w);(first|simp [go_sem,bX,k0,k1,k2,k3] at r|simp [go_sem] at r|skip);replace bX:=dW r;clear r m
  obtain ⟨⟨u,y⟩,X,Y⟩:=sO (w:=w) (w+1+1+1+1) U V b1 b2;obtain ⟨ya,yp,rfl,_⟩:=z.seg;obtain ⟨yb,yq,rfl,_⟩:=A.seg
  go_wp2
  refine rE results201 rfl (aO x.1 (.slice ya x.1.cells yp) (.slice yb x.1.words yq) tY) rfl (aJ x.2.1 tY) ⟨⟨_,_,rfl,?_,?_,X,Y⟩,by exact zN⟩
  · exact zP z z u
  · exact zP A A y
theorem su (c:Ch) (h:Ha) (H I:Value) (lo:Nat) (w:World) (h1:aD w lo H c.cells) (O:aG w lo I c.words) (a9:0≤h.cell) (aa:h.cell<c.cells.length) (K:h.seen=0) :
    (∀ (N:h.cell<h.come) (E:bQ c h.cell h.seen 2 0=false),Calls prog 201 #[.agg (aF c H I),.agg (aB h)] w fun r w'=>dJ w w' lo H I (jQ c h) r) ∧
    (∀ (N:h.come≤h.cell) (hy:h.cell<h.fin) (E:bQ c h.cell h.seen 2 0=false),Calls prog 201 #[.agg (aF c H I),.agg (aB h)] w fun r w'=>dJ w w' lo H I (jQ c h) r):=by
  constructor
  case' left =>
    intro N E
    have U:Hid (0=0):=rfl
  case' right =>
    intro N hy E
    have V:Hid (0=0):=rfl
  all_goals
    obtain ⟨i,y⟩:∃ i:Nat,h.cell=(i:Int):=⟨h.cell.toNat,by omega⟩
    have hs:=K
    rw [y,hs] at E
    first
    | (replace U:=U;have e:jQ c h=done (bK c i 0 2 0) { h with pos:=3,cell:=(i:Int),seen:=0 }:=by simp [jQ,hs,y,E,show ¬ h.come≤i by omega])
    | (replace V:=V;have e:jQ c h=done (bK c i 0 2 0) { h with pos:=3,cell:=(i:Int),seen:=0 }:=by simp [jQ,hs,y,E,show ¬ h.fin≤i by omega])
    rw [e]
    have hi:i<c.cells.length:=by omega
    have T:=aA fun W a b=>ko c i 0 2 0 H I lo W a b hi
    have D:=aA fun W=>bU (bK c i 0 2 0) { h with pos:=3,cell:=(i:Int),seen:=0 } H I lo W
    generalize done (bK c i 0 2 0) { h with pos:=3,cell:=(i:Int),seen:=0 }=x at *
    rw [E] at T
    have b1:=kY h1
    have b2:=kY O
    have R:=nO b1
    have ac:=R w tO
    have ad:=R (w+1) tO
    have ae:=R (w+1+1) tO
    have af:=R (w+1+1+1) tO
    have o1:=h1
    have o2:=O
    obtain ⟨Y,q1,e1,_⟩:=h1.seg
    obtain ⟨Z,q2,e2,_⟩:=O.seg
    subst e1 e2
    clear h1 O e K
    first
    | (replace U:=U
       have a6:¬ h.come≤(i:Int):=by omega
       clear N)
    | (replace V:=V
       have a6:h.come≤(i:Int):=by omega
       have ab:¬ h.fin≤(i:Int):=by omega
       clear N hy)
    go_enter func201,ntmps201
    go_wp2_with fail;refine (T.out _ (zO o1 o1) (zO o2 o2)).mono ?_;rintro _ X ⟨rfl,p1,p2,q⟩;have L:=q.size;(try (simp at L));have u:=PM q (b:=w);(try simp [go_sem] at u);replace bX:=dW u;clear u;have J:=I6 (w:=w) zB q;clear q
    have a7:jI (Value.slice Y c.cells q1).ownBlock (Value.slice Z c.words q2).ownBlock w X:=mY J
    obtain ⟨k0,k1,k2,k3⟩:=mF (a:=w) (b:=X)
    have r1:aD X lo (.slice Y c.cells q1) (bK c i 0 2 0).cells:=p1
    have r2:aG X lo (.slice Z c.words q2) (bK c i 0 2 0).words:=p2
    go_wp2_with fail
    refine (D.out _ (zO r1 o1) (zO r2 o2)).mono ?_
    rintro _ w3 ⟨⟨y1,y2,rfl,F,G,a0,a3⟩,m⟩
    have a8:jI (Value.slice Y c.cells q1).ownBlock (Value.slice Z c.words q2).ownBlock w w3:=gU zN (dR m)
    have M:=m.size;(try simp at M);have u:=BL m (b:=w);(first|simp [go_sem,bX,k0,k1,k2,k3] at u|simp [go_sem] at u|skip);replace bX:=dW u;clear u m
    obtain ⟨⟨z,A⟩,a4,a5⟩:=sO (w:=w) (w+1+1+1+1) a0 a3 b1 b2;obtain ⟨ya,yp,rfl,_⟩:=F.seg;obtain ⟨yb,yq,rfl,_⟩:=G.seg
    go_wp2
    refine rE results201 rfl (aO x.1 (.slice ya x.1.cells yp) (.slice yb x.1.words yq) tY) rfl (aJ x.2.1 tY) ⟨⟨_,_,rfl,?_,?_,a4,a5⟩,by exact zN⟩
    · exact zP F F z
    · exact zP G G A
theorem Da (c:Ch) (h:Ha) (m q:Value) (lo:Nat) (w:World) (h1:aD w lo m c.cells) (A:aG w lo q c.words) (u:0≤h.cell) (y:h.cell<c.cells.length) (z:h.seen=0) (E:h.cell<h.come) (D:bQ c h.cell h.seen 2 0=false) :
    Calls prog 201 #[.agg (aF c m q),.agg (aB h)] w fun r w'=>dJ w w' lo m q (jQ c h) r:=(su c h m q lo w h1 A u y z).1 E D
theorem Db (c:Ch) (h:Ha) (m q:Value) (lo:Nat) (w:World) (h1:aD w lo m c.cells) (A:aG w lo q c.words) (u:0≤h.cell) (y:h.cell<c.cells.length) (z:h.seen=0) (E:h.come≤h.cell) (F:h.cell<h.fin) (D:bQ c h.cell h.seen 2 0=false) :
    Calls prog 201 #[.agg (aF c m q),.agg (aB h)] w fun r w'=>dJ w w' lo m q (jQ c h) r:=(su c h m q lo w h1 A u y z).2 E F D
end
section
open Go.RowKit
attribute [local simp] aP
attribute [local go_sem ↓] aQ bF aY bY aZ bZ aX bB aN aU
theorem gV (w:World) (lo:Nat) (m q:Value):Calls prog 233 #[] w fun r w'=>vS w w' lo m q nothing r∧Below w w w':=by
 go_enter func233,ntmps233
 go_wp2
 refine rE results233 rfl (aO Ch.zero (.slice none 0 0) (.slice none 0 0) (by simp [go_sem])) rfl (aJ Ha.zero (by simp [go_sem])) ⟨lT _ _ _ _ _,by exact zB⟩
theorem dL (h:Ha) (k:Int) (w:World):Calls prog 247 #[.agg (aB h),.int .i64 k] w fun r w'=>r=.returned (.agg (aB { h with pos:=k }))∧Below w w w':=by
 go_enter func247,ntmps247
 go_wp2
 refine bodyPost_ret (jy results247 rfl (aJ { h with pos:=k } (by simp [go_sem] <;> rfl))) rfl ⟨rfl,by exact zB⟩
theorem Dc {k e:Int} (q:eB k e=true):called (aV 0 0) k e=(begun k e 0,0):=by
 have m:bM (aV 0 0)=true:=by decide
 have h1:(aV 0 0).pos=0:=rfl
 simp [called,m,h1,q]
theorem pX (h:Ha) (hc:eB h.code h.elem=true) (w:World):Calls prog 250 #[.agg (aB h)] w fun r w'=>r=.returned (.agg (aB (anew h)))∧Below w w w':=by
 have CC:=wu (aV 0 0) h.code h.elem
 rw [Dc hc] at CC
 have e:{ begun h.code h.elem 0 with beg:=h.beg }=anew h:=rfl
 have E:=aA e
 clear e
 go_enter func250,ntmps250
 go_wp2_with fail
 go_region_held3 (fun w'=>hp w' w=some (.cells (aB h) 49)∧w'.cell? ⟨w,1,none⟩=some (.int .i64 h.code)∧w'.cell? ⟨w,2,none⟩=some (.int .i64 h.elem))
  (first|(simp [*,go_sem]))
  (first|(go_at_call 48;refine (iF 0 0 _).mono ?_;rintro _ O ⟨rfl,A⟩;have a0:Below w w O:=bT zB A;have R:=A.size;(try (simp at R));have z:=hQ A (b:=w);(first|(simp [go_sem,F,K] at z)|(simp [go_sem] at z));(try clear N M);(try clear F);have F:=z;clear z;(try clear K);obtain ⟨N,M,K⟩:=bO F;have z:=hQ A (b:=w+1);(first|(simp [go_sem,q,D] at z)|(simp [go_sem] at z));(try clear L J);(try clear q);have q:=z;clear z;(try clear D);obtain ⟨L,J,D⟩:=bO q;have H:=oW A (b:=w+1+1);(try simp [go_sem] at H);(try have a4:=(bO H).2.2);have a2:w<O.heap.size:=tO;have G:w<O.heap.size+1:=tO;have X:w+1<O.heap.size:=tO;have y:w+1<O.heap.size+1:=tO)|(go_at_call 52;refine (CC _).mono ?_;rintro _ V ⟨rfl,m⟩;have a1:Below w w V:=bT zB m;have T:=m.size;(try (simp at T));have z:=hQ m (b:=w);(first|(simp [go_sem,F,K,G,y] at z)|(simp [go_sem,G,y] at z));(try clear N M);(try clear F);have F:=z;clear z;(try clear K);obtain ⟨N,M,K⟩:=bO F;have z:=hQ m (b:=w+1);(first|(simp [go_sem,q,D,G,y] at z)|(simp [go_sem,G,y] at z));(try clear L J);(try clear q);have q:=z;clear z;(try clear D);obtain ⟨L,J,D⟩:=bO q;(first|(have U:=(bO H).2.2;have u:=oW m (b:=w+1+1);(simp [go_sem,H,U] at u))|(have u:=oW m (b:=w+1+1);(try simp [go_sem] at u)));(try have a5:=(bO u).2.2);have I:=oW m (b:=O);(try simp [go_sem] at I);(try have a6:=(bO I).2.2);have a3:w<V.heap.size:=tO;have a7:w<V.heap.size+1:=tO;have Y:w+1<V.heap.size:=tO;have Z:w+1<V.heap.size+1:=tO))
 all_goals (try (have y0:=(bO u).1;have g0:=(bO u).2.1))
 all_goals (try (have y1:=(bO I).1;have g1:=(bO I).2.1))
 all_goals go_wp2
 all_goals (refine bodyPost_ret (jy results250 rfl (aJ (anew h) tZ)) rfl ⟨rfl,by exact zB⟩)
theorem Df (c:Ch) (h:Ha) (J K:Value) (lo:Nat) (w:World) (h1:aD w lo J c.cells) (E:aG w lo K c.words) :
  dG 242 c h J K lo w ((c,{ h with fin:=c.fin,pos:=5 },true)):=by
 obtain ⟨z,H,A,I,rfl,rfl,L,M,R,T⟩:=rR h1 E
 clear h1 E
 have F:=L.out
 have G:=M.out
 go_enter func242,ntmps242
 go_wp2_with fail
 go_region_held3 (fun w'=>hp w' w=some (.cells (aF c (.slice z c.cells H) (.slice A c.words I)) 31)∧hp w' (w+1)=some (.cells (aB { h with fin:=c.fin }) 49))
  (first|(simp [*,go_sem]))
  (first|((go_at_call 247;refine aK w zB fun D=>?_;refine (dL _ _ _).mono ?_;rintro _ V ⟨rfl,q⟩;obtain ⟨r,u,y⟩:=fH D q (b:=w);(try simp at u);(try simp [go_sem] at y);replace U:=dW y;clear y;have m:=r;clear q D);have N:=own_below F m;have O:=own_below G m))
 go_wp2
 refine rE results242 rfl (aO c (.slice z c.cells H) (.slice A c.words I) tZ) rfl (aJ { h with fin:=c.fin,pos:=5 } tZ) ⟨⟨_,_,rfl,?_,?_,aM _ _,aM _ _⟩,dR zB⟩
 ·exact zO N F
 ·exact zO O G
theorem Af (c:Ch) (h:Ha) (J K:Value) (lo:Nat) (w:World) (h1:aD w lo J c.cells) (E:aG w lo K c.words) :
  dG 243 c h J K lo w ((c,{ h with come:=c.got,pos:=6 },true)):=by
 obtain ⟨z,H,A,I,rfl,rfl,L,M,R,T⟩:=rR h1 E
 clear h1 E
 have F:=L.out
 have G:=M.out
 go_enter func243,ntmps243
 go_wp2_with fail
 go_region_held3 (fun w'=>hp w' w=some (.cells (aF c (.slice z c.cells H) (.slice A c.words I)) 31)∧hp w' (w+1)=some (.cells (aB { h with come:=c.got }) 49))
  (first|(simp [*,go_sem]))
  (first|((go_at_call 247;refine aK w zB fun D=>?_;refine (dL _ _ _).mono ?_;rintro _ V ⟨rfl,q⟩;obtain ⟨r,u,y⟩:=fH D q (b:=w);(try simp at u);(try simp [go_sem] at y);replace U:=dW y;clear y;have m:=r;clear q D);have N:=own_below F m;have O:=own_below G m))
 go_wp2
 refine rE results243 rfl (aO c (.slice z c.cells H) (.slice A c.words I) tZ) rfl (aJ { h with come:=c.got,pos:=6 } tZ) ⟨⟨_,_,rfl,?_,?_,aM _ _,aM _ _⟩,dR zB⟩
 ·exact zO N F
 ·exact zO O G
end
section
open Go.RowKit
attribute [local simp] aP
attribute [local go_sem ↓] aQ bF aY bY aZ bZ aX bB aN aU
theorem Ag (c:Ch) (h:Ha) (J K:Value) (lo:Nat) (w:World) (h1:aD w lo J c.cells) (E:aG w lo K c.words) (hs:c.sent=40) :
  dG 239 c h J K lo w ((c,aV 4 0,true)):=by
 obtain ⟨z,H,A,I,rfl,rfl,L,M,R,T⟩:=rR h1 E
 clear h1 E
 have F:=L.out
 have G:=M.out
 go_enter func239,ntmps239
 go_wp2_with fail
 go_region_held3 (fun w'=>hp w' w=some (.cells (aF c (.slice z c.cells H) (.slice A c.words I)) 31)∧hp w' (w+1)=some (.cells (aB h) 49))
  (first|(simp [*,go_sem]))
  (first|((go_at_call 48;refine aK w zB fun D=>?_;refine (iF _ _ _).mono ?_;rintro _ V ⟨rfl,q⟩;obtain ⟨r,u,y⟩:=fH D q (b:=w);(try simp at u);(try simp [go_sem] at y);replace U:=dW y;clear y;have m:=r;clear q D);have N:=own_below F m;have O:=own_below G m))
 go_wp2
 refine rE results239 rfl (aO c (.slice z c.cells H) (.slice A c.words I) tZ) rfl (aJ (aV 4 0) (by simp [go_sem, *] <;> first|rfl|simp [cZ,anew,hci])) ⟨⟨_,_,rfl,?_,?_,aM _ _,aM _ _⟩,dR zB⟩
 ·exact zO N F
 ·exact zO O G
theorem Ah (c:Ch) (h:Ha) (J K:Value) (lo:Nat) (w:World) (h1:aD w lo J c.cells) (E:aG w lo K c.words) (hs:¬ c.sent=40) (N:0≤c.sent∧c.sent≤40) :
  dG 239 c h J K lo w (({ c with sent:=c.sent+1 },{ h with cell:=c.sent,pos:=2 },true)):=by
 obtain ⟨z,H,A,I,rfl,rfl,L,M,T,U⟩:=rR h1 E
 clear h1 E
 have F:=L.out
 have G:=M.out
 go_enter func239,ntmps239
 go_wp2_with fail
 go_region_held3 (fun w'=>hp w' w=some (.cells (aF { c with sent:=c.sent+1 } (.slice z c.cells H) (.slice A c.words I)) 31)∧hp w' (w+1)=some (.cells (aB { h with cell:=c.sent }) 49))
  (first|(simp [*,go_sem]))
  (first|((go_at_call 247;refine aK w zB fun D=>?_;refine (dL _ _ _).mono ?_;rintro _ X ⟨rfl,q⟩;obtain ⟨r,u,y⟩:=fH D q (b:=w);(try simp at u);(try simp [go_sem] at y);replace V:=dW y;clear y;have m:=r;clear q D);have O:=own_below F m;have R:=own_below G m))
 go_wp2
 refine rE results239 rfl (aO { c with sent:=c.sent+1 } (.slice z c.cells H) (.slice A c.words I) tZ) rfl (aJ { h with cell:=c.sent,pos:=2 } (by simp [go_sem, *] <;> first|rfl|simp [cZ,anew,hci])) ⟨⟨_,_,rfl,?_,?_,aM _ _,aM _ _⟩,dR zB⟩
 ·exact zO O F
 ·exact zO R G
def Fq (c:Ch) (h:Ha):St:=if (kv c h).2 then (c,(kv c h).1,true) else nothing
end
section
open Go.RowKit
attribute [local simp] aP
attribute [local go_sem ↓] aQ bF aY bY aZ bZ aX bB aN aU
theorem nX {w:World} {lo:Nat} {e:TypeId} {k n p m:Nat} {a:Option Addr} {u:List Value} (h:w.ownsRow lo e k (.slice a n p) m u) (r:a=none):p=0:=by
 rcases h.2 with ⟨h1,_⟩|⟨g,cap,q,h1,_⟩
 ·simp at h1;exact h1.2.2
 ·subst r;simp at h1
theorem wB (c:Ch) (v x:Int) (a b:Value):aF (dM c v x) a b=aF c a b:=by unfold dM;split <;> rfl
theorem kK {c:Ch} (e:aW c=true):c.cells.length=40∧c.words.length≤80:=by
 simp [aW,fO] at e
 omega
theorem zu (c:Ch) (v x:Int) (F G:Value) (lo:Nat) (w:World) (h1:aD w lo F c.cells) (A:aG w lo G c.words) (D:aW c=true) :
  Calls prog 68 #[.agg (aF c F G),.int .i64 v,.int .i64 x] w fun r w'=>(∃ m u,r=.returned (.tuple #[.agg (aF c m u),.bool (eY c v x)])∧aD w' w m c.cells∧aG w' w u (dM c v x).words)∧Below w w w':=by
 obtain ⟨n1,L⟩:=kK D
 obtain ⟨a,p,rfl,I⟩:=h1.seg
 obtain ⟨b,q,rfl,J⟩:=A.seg
 refine (CF c v x a b p q w I (nX h1) J (nX A) tO tO).mono ?_
 rintro _ w' ⟨⟨m,u,rfl,y,E⟩,K⟩
 obtain ⟨z,H⟩:=CE (v:=v) (x:=x) D
 rw [z] at y E
 rw [(nA c v x).1] at y
 refine ⟨⟨m,u,?_,y,E⟩,K⟩
 rw [z,H]
 show Ending.returned (.tuple #[.agg (aF (dM c v x) m u),_])=_
 rw [wB]
theorem Ji (c:Ch) (F G:Value) (lo:Nat) (w:World) (h1:aD w lo F c.cells) (z:aG w lo G c.words) (A:aW c=true) (L:80≤c.words.length) :
  Calls prog 257 #[.agg (aF c F G)] w fun r w'=>(∃ m u,r=.returned (.tuple #[.agg (aF c m u),.int .i64 0])∧aD w' w m c.cells∧aG w' w u c.words)∧Below w w w':=by
 obtain ⟨n1,M⟩:=kK A
 obtain ⟨a,p,rfl,I⟩:=h1.seg
 obtain ⟨b,q,rfl,J⟩:=z.seg
 refine (wh c a b p q w I (nX h1) J (nX z) tO tO).mono ?_
 rintro _ w' ⟨⟨m,u,rfl,D,E⟩,K⟩
 obtain ⟨y,H⟩:=vY A L
 rw [y] at D E
 refine ⟨⟨m,u,?_,D,E⟩,K⟩
 rw [y,H]
 rfl
theorem Jj (c:Ch) (F G:Value) (lo:Nat) (w:World) (h1:aD w lo F c.cells) (z:aG w lo G c.words) (A:aW c=true) (L:¬ 80≤c.words.length) :
  Calls prog 257 #[.agg (aF c F G)] w fun r w'=>(∃ m u,r=.returned (.tuple #[.agg (aF c m u),.int .i64 ((c.words.length:Int)+1)])∧aD w' w m c.cells∧aG w' w u (c.words ++ [0]))∧Below w w w':=by
 obtain ⟨n1,M⟩:=kK A
 obtain ⟨a,p,rfl,I⟩:=h1.seg
 obtain ⟨b,q,rfl,J⟩:=z.seg
 refine (wh c a b p q w I (nX h1) J (nX z) tO tO).mono ?_
 rintro _ w' ⟨⟨m,u,rfl,D,E⟩,K⟩
 obtain ⟨y,H⟩:=vZ A L
 rw [y] at D E
 refine ⟨⟨m,u,?_,D,E⟩,K⟩
 rw [y,H]
 rfl
def StepB (w w':World) (lo:Nat) (v1 v2:Value) (x:St) (r:Ending):Prop:=vS w w' lo v1 v2 x r∧Below w w w'
theorem Jk (c:Ch) (y z:Ha) (H I:Value) (lo:Nat) (w:World) (h1:aD w lo H c.cells) (L:aG w lo I c.words) (hc:aW c=true) (a0:lo≤w.heap.size) (ht:eY c y.wait 1=true) :
  Calls prog 253 #[.agg (aF c H I),.agg (aB y),.agg (aB z)] w fun r w'=>StepB w w' lo H I ((dM c y.wait 1,y,true)) r:=by
 obtain ⟨a1,q1,a2,q2,rfl,rfl,Y,Z,b1,b2⟩:=rR h1 L
 clear h1 L
 have N:=Y.out
 have O:=Z.out
 go_enter func253,ntmps253
 go_wp2_with fail;refine aK w zB fun K=>?_;refine (zu c y.wait 1 _ _ lo _ (zO N N) (zO O O) hc).mono ?_;rintro _ R ⟨⟨y1,y2,rfl,m,q⟩,u⟩;obtain ⟨A,D,J⟩:=yL K u (b:=w);(try simp at D);(try simp [go_sem] at J);replace bX:=ll J;clear J;have M:=A;clear u K
 rw [ht]
 try simp at m q
 have E:fC w (.slice a1 c.cells q1) y1:=fun j G=>.inr (by have:=(m.lt j G).1;(try simp at this);omega)
 have F:fC w (.slice a2 c.words q2) y2:=fun j G=>.inr (by have:=(q.lt j G).1;(try simp at this);omega)
 obtain ⟨T,V,rfl,_⟩:=m.seg
 obtain ⟨U,X,rfl,_⟩:=q.seg
 have r1:=aH (lo':=lo) m tO
 have r2:=aH (lo':=lo) q tO
 obtain ⟨k0,k1,k2,k3⟩:=mF (a:=w) (b:=R)
 have k4:w+1+1+1+1<R.heap.size:=by omega
 go_wp2_with fail
 go_region
 go_wp2
 refine rE results253 rfl (aO c (.slice T c.cells V) (.slice U (dM c y.wait 1).words.length X) tZ) rfl (aJ y tZ) ⟨⟨.slice T c.cells V,.slice U (dM c y.wait 1).words.length X,by (rw [wB];rfl),?_,?_,E,F⟩,by exact zB⟩
 ·show aD _ lo _ (dM c y.wait 1).cells
  rw [(nA c y.wait 1).1]
  exact zO r1 m
 ·exact zO r2 q
theorem LG (c:Ch) (y z:Ha) (H I:Value) (lo:Nat) (w:World) (h1:aD w lo H c.cells) (L:aG w lo I c.words) (U:aW c=true) (V:lo≤w.heap.size) (X:eY c y.wait 1=false) :
  Calls prog 253 #[.agg (aF c H I),.agg (aB y),.agg (aB z)] w fun r w'=>StepB w w' lo H I ((c,z,true)) r:=by
 obtain ⟨R,q1,T,q2,rfl,rfl,N,O,b1,b2⟩:=rR h1 L
 clear h1 L
 have D:=N.out
 have E:=O.out
 go_enter func253,ntmps253
 go_wp2_with fail;refine aK w zB fun K=>?_;refine (zu c y.wait 1 _ _ lo _ (zO D D) (zO E E) U).mono ?_;rintro _ M ⟨⟨y1,y2,rfl,F,G⟩,q⟩;obtain ⟨u,A,J⟩:=yL K q (b:=w);(try simp at A);(try simp [go_sem] at J);replace bX:=ll J;clear J;have m:=u;clear q K
 rw [X]
 obtain ⟨ya,yp,rfl,_⟩:=F.seg
 obtain ⟨yb,yq,rfl,_⟩:=G.seg
 have Y:=own_below D m
 have Z:=own_below E m
 obtain ⟨k0,k1,k2,k3⟩:=mF (a:=w) (b:=M)
 have k4:w+1+1+1+1<M.heap.size:=by omega
 go_wp2_with fail
 go_region
 go_wp2
 refine rE results253 rfl (aO c (.slice R c.cells q1) (.slice T c.words q2) tZ) rfl (aJ z (by simp [go_sem, *] <;> first|rfl|simp [cZ,anew,hci])) ⟨⟨_,_,rfl,?_,?_,aM _ _,aM _ _⟩,by exact zB⟩
 ·exact zO Y D
 ·exact zO Z E
def BN (c:Ch) (y z:Ha):St:=if eY c y.wait 1 then (dM c y.wait 1,y,true) else (c,z,true)
theorem tL (c:Ch) (y z:Ha) (q u:Value) (lo:Nat) (w:World) (h1:aD w lo q c.cells) (D:aG w lo u c.words) (E:aW c=true) (m:lo≤w.heap.size) :
  Calls prog 253 #[.agg (aF c q u),.agg (aB y),.agg (aB z)] w fun r w'=>StepB w w' lo q u (BN c y z) r:=by
 cases A:eY c y.wait 1 with
 | true =>
  rw [show BN c y z=(dM c y.wait 1,y,true) by simp [BN,A]]
  exact Jk c y z q u lo w h1 D E m A
 | false =>
  rw [show BN c y z=(c,z,true) by simp [BN,A]]
  exact LG c y z q u lo w h1 D E m A
theorem Ai (c:Ch) (h:Ha) (v1 v2:Value) (lo:Nat) (w:World) (h1:aD w lo v1 c.cells) (Z:aG w lo v2 c.words) (a6:0≤h.cell) (a7:h.cell<c.cells.length) :
  dG 246 c h v1 v2 lo w ((cB c h.cell 7,aV 1 0,true)):=by
 obtain ⟨i,M⟩:∃ i:Nat,h.cell=(i:Int):=⟨h.cell.toNat,by omega⟩
 have hi:i<c.cells.length:=by omega
 have a9:(0:Int)≤(i:Int):=by omega
 have aa:(i:Int)<(c.cells.length:Int):=by omega
 have a1:=h1.ne Z
 obtain ⟨Y,q2,rfl,_⟩:=Z.seg
 obtain ⟨g,V,rfl,a5,y,q,a8⟩:=h1.open1 hi
 have O1:=aA h1
 have O2:=aA Z
 have z:g<w.heap.size+1:=by omega
 have A:g<w.heap.size+1+1:=by omega
 have D:g<w.heap.size+1+1+1:=by omega
 have af:g≠w.heap.size:=by omega
 have ag:g≠w.heap.size+1:=by omega
 have ah:g≠w.heap.size+1+1:=by omega
 have ai:g≠w.heap.size+1+1+1:=by omega
 have ab:w.heap.size≠g:=by omega
 have ac:w.heap.size+1≠g:=by omega
 have ad:w.heap.size+1+1≠g:=by omega
 have ae:w.heap.size+1+1+1≠g:=by omega
 have hx:Hid (cellAt c h.cell=c.cells.getD i ⟨0,0,0⟩):=by simp [cellAt,Hid,M]
 have c0:=q 0 tO
 have c1:=q 1 tO
 have c2:=q 2 tO
 simp only [C3.val,Nat.add_zero] at c0 c1 c2
 rw [show cB c h.cell 7=cB c i 7 by rw [M]]
 have e1:=jK c i 7
 have P1:=fun W (o:aD W lo (.slice (some ⟨g,0,none⟩) c.cells V) c.cells)=>aD.setS o hi 7
 rw [← e1] at P1
 clear hx q h1 Z e1
 generalize c.cells.getD i ⟨0,0,0⟩=x at *
 have o1:=O1.out
 have o2:=O2.out
 go_enter func246,ntmps246
 have P2:=aI (p:=⟨g,i*3,none⟩) o2 (a1 g rfl) (.int .i64 7)
 go_wp2_with fail
 go_region_held3 (fun w'=>hp w' w=some (.cells (aF c (.slice (some ⟨g,0,none⟩) c.cells V) (.slice Y c.words q2)) 31)∧hp w' (w+1)=some (.cells (aB h) 49))
  (first|(simp [*,go_sem]))
  (first|(go_at_call 48;refine (iF _ _ _).mono ?_;rintro _ w1 ⟨rfl,m⟩;have a4:Gr g w w1:=gT zG (rf m);have T:=m.size;(try (simp at T));have u:=hQ m (b:=w);(first|(simp [go_sem,O,U,y,z,A,D] at u)|(simp [go_sem,y,z,A,D] at u));(try clear a3 a0);(try clear O);have O:=u;clear u;(try clear U);obtain ⟨a3,a0,U⟩:=bO O;have u:=hQ m (b:=w+1);(first|(simp [go_sem,H,K,y,z,A,D] at u)|(simp [go_sem,y,z,A,D] at u));(try clear X R);(try clear H);have H:=u;clear u;(try clear K);obtain ⟨X,R,K⟩:=bO H;have u:=hQ m (b:=w+1+1);(first|(simp [go_sem,E,G,y,z,A,D] at u)|(simp [go_sem,y,z,A,D] at u));(try clear N L);(try clear E);have E:=u;clear u;(try clear G);obtain ⟨N,L,G⟩:=bO E;have u:=hQ m (b:=w+1+1+1);(first|(simp [go_sem,r,F,y,z,A,D] at u)|(simp [go_sem,y,z,A,D] at u));(try clear J I);(try clear r);have r:=u;clear u;(try clear F);obtain ⟨J,I,F⟩:=bO r;have p1:aD w1 lo (.slice (some ⟨g,0,none⟩) c.cells V) (cB c i 7).cells:=own_below (by exact zO (P1 _ o1) o1) m;have p2:aG w1 lo (.slice Y c.words q2) c.words:=own_below (zO P2 o2) m))
 go_wp2
 refine rE results246 rfl (aO (cB c i 7) (.slice (some ⟨g,0,none⟩) c.cells V) (.slice Y c.words q2) tZ) rfl (aJ (aV 1 0) (by simp [go_sem, *] <;> first|rfl|simp [cZ,anew,M])) ⟨⟨_,_,rfl,?_,?_,aM _ _,aM _ _⟩,mY (show w.grownBy _ (some g) from zG)⟩
 ·show aD _ lo (.slice (some ⟨g,0,none⟩) c.cells V) (cB c i 7).cells
  exact zO p1 o1
 ·show aG _ lo (.slice Y c.words q2) c.words
  exact zO p2 o2
end
section
open Go.RowKit
theorem l8 (c:Ch) (i:Nat) (f t v:Int) (F J:Value) (lo:Nat) (w:World) (h1:aD w lo F c.cells) (D:aG w lo J c.words) (Z:i<c.cells.length) :
  Calls prog 254 #[.agg (aF c F J),.int .i64 i,.int .i64 f,.int .i64 t,.int .i64 v] w fun r w'=>r=.returned (.bool (bQ c i f t v))∧aD w' lo F (bK c i f t v).cells∧aG w' lo J c.words∧w.grownBy w' F.ownBlock:=by
 have O2:=aA D
 have a6:=h1.ne D
 obtain ⟨b,q,rfl,_⟩:=D.seg
 obtain ⟨g,cap,rfl,a5,z,u,a0⟩:=h1.open1 Z
 have O1:=aA h1
 have c0:=u 0 tO
 have N:=u 1 tO
 have c2:=u 2 tO
 simp only [C3.val,Nat.add_zero] at c0 N c2
 have a3:(0:Int)≤(i:Int):=by omega
 have a4:(i:Int)<(c.cells.length:Int):=by omega
 have a2:w.heap.size≠g:=by omega
 have R:w.heap.size+1≠g:=by omega
 have T:g≠w.heap.size:=by omega
 have U:g≠w.heap.size+1:=by omega
 rw [uC,zi]
 unfold vH lG
 generalize H:c.cells.getD i ⟨0,0,0⟩=x at c0 N c2
 clear h1 D u H
 unfold aF
 go_enter func254,ntmps254
 go_wp2_with fail;refine aK w zB fun M=>?_;refine (EO _ _ _ f t v _).mono ?_;rintro _ G ⟨hr,y⟩;have m:=bT M y;have A:=y.size;(try simp at A);have K:=oZ y (b:=w);(try simp [go_sem] at K);replace bX:=K;clear K;have O:=m;clear y M
 unfold uh at hr
 subst hr
 have I:=O1.out
 have E:=O2.out
 have p1:=own_below I m
 have p2:=own_below E m
 have d1:=fun o=>(m.cell (p:=⟨g,o,none⟩) z)
 have d2:=fun o=>(m.frozen (p:=⟨g,o,none⟩) z)
 have V:g<G.heap.size:=by omega
 have X:G.heap.size≠g:=by omega
 have Y:g≠G.heap.size:=by omega
 have L:=aD.set p1 Z (lG x f t v)
 simp only [lG] at L
 go_wp2
 go_ret
 refine ⟨rfl,?_,?_,?_⟩
 ·exact zO L I
 ·(repeat first|with_reducible exact p2|with_reducible refine rQ ?_ _|with_reducible refine qh ?_|((with_reducible first|refine aI ?_ ?_ _|refine dZ ?_ ?_);rotate_left;focus first|(refine own_ne E ?_;(try dsimp only);omega)|(refine dN E ?_;(try dsimp only);omega)|exact fun h=>aD.ne I E _ rfl h))
 ·have a1:Gr g w G:=rf m
  show Gr g w _
  exact zG
attribute [local simp] aP
attribute [local go_sem ↓] aQ bF aY bY aZ bZ aX bB aN aU
theorem kN (h:Ha) (s e t:Int) (w:World):Calls prog 249 #[.agg (aB h),.agg #[.int .i64 s,.int .i64 e,.int .i64 t]] w fun r w'=>r=.returned (.agg (aB { h with seen:=s,wait:=t }))∧Below w w w':=by
 go_enter func249,ntmps249
 go_wp2_with fail
 go_region
 all_goals go_wp2
 all_goals exact bodyPost_ret (jy results249 rfl (aJ { h with seen:=s,wait:=t } tZ)) rfl ⟨rfl,by exact zB⟩
end
section
open Go.RowKit
attribute [local simp] aP
attribute [local go_sem ↓] aQ bF aY bY aZ bZ aX bB aN aU
theorem Fs (c:Ch) (q u:Value) (lo:Nat) (L:List Int) (m:Int) (w:World) (h1:aD w lo q c.cells) (A:aG w lo u c.words) (E:aW c=true) (F:¬ 80≤c.words.length) (D:L=c.words ++ [0]) (G:m=(c.words.length:Int)+1) :
    Calls prog 257 #[.agg (aF c q u)] w fun r w'=>(∃ y z,r=.returned (.tuple #[.agg (aF c y z),.int .i64 m])∧aD w' w y c.cells∧aG w' w z L)∧Below w w w':=by
  subst D G
  exact Jj c q u lo w h1 A E F
theorem Dh (c:Ch) (st:Int) (y z:Ha) (M N:Value) (lo:Nat) (w:World) (h1:aD w lo M c.cells) (U:aG w lo N c.words) (hc:aW c=true) (hf:80≤c.words.length) :
    Calls prog 255 #[.agg (aF c M N),.int .i64 st,.agg (aB y),.agg (aB z)] w fun r w'=>StepB w w' lo M N ((c,aV 4 0,true)) r:=by
  obtain ⟨O,X,R,Y,rfl,rfl,O1,O2,b1,b2⟩:=rR h1 U
  clear h1 U
  have I:=O1.out
  have J:=O2.out
  go_enter func255,ntmps255
  go_wp2_with fail;refine aK w zB fun D=>?_;refine (Ji c _ _ lo _ (zO I I) (zO J J) hc hf).mono ?_;rintro _ Z ⟨⟨y1,y2,rfl,K,L⟩,q⟩;obtain ⟨E,G,A⟩:=yL D q (b:=w);(try simp at G);(try simp [go_sem] at A);replace T:=ll A;clear A;have V:=E;clear q D
  obtain ⟨ya,yp,rfl,_⟩:=K.seg
  obtain ⟨yb,yq,rfl,_⟩:=L.seg
  obtain ⟨k0,k1,k2,k3⟩:=mF (a:=w) (b:=Z)
  have k4:w+1+1+1+1<Z.heap.size:=by omega
  go_wp2_with fail
  go_region_held3 (fun w'=>hp w' w=some (.cells (aF c (.slice O c.cells X) (.slice R c.words Y)) 31)∧hp w' (w+1)=some (.cells (aB y) 49))
    (first|(simp [*,go_sem]))
    (first|((go_at_call 48;refine aK w zB fun D=>?_;refine (iF _ _ _).mono ?_;rintro _ w2 ⟨rfl,u⟩;obtain ⟨F,H,A⟩:=yL D u (b:=w);(try simp at H);(first|simp [go_sem,T,k0,k1,k2,k3,k4] at A|simp [go_sem] at A|skip);replace T:=ll A;clear A;have m:=F;clear u D);have p1:=own_below I m;have p2:=own_below J m))
  go_wp2
  refine rE results255 rfl (aO c (.slice O c.cells X) (.slice R c.words Y) tZ) rfl (aJ (aV 4 0) (by simp [go_sem, *] <;> first|rfl|simp [cZ,anew,hci])) ⟨⟨_,_,rfl,?_,?_,aM _ _,aM _ _⟩,by exact zB⟩
  · exact zO p1 I
  · exact zO p2 J
theorem wC (c:Ch) (D:Int) (y z:Ha) (O R:Value) (lo:Nat) (w:World) (h1:aD w lo O c.cells) (h2:aG w lo R c.words) (a7:0≤y.cell) (a8:y.cell<c.cells.length) (hc:aW c=true) (aa:lo≤w.heap.size) (hf:¬ 80≤c.words.length) (m:Int) (hm:m=(c.words.length:Int)+1) :
    (∀ (U:bQ c y.cell y.seen D m=false),Calls prog 255 #[.agg (aF c O R),.int .i64 D,.agg (aB y),.agg (aB z)] w fun r w'=>StepB w w' lo O R ((c,z,true)) r) ∧
    (∀ (U:bQ c y.cell y.seen D m=true),Calls prog 255 #[.agg (aF c O R),.int .i64 D,.agg (aB y),.agg (aB z)] w fun r w'=>StepB w w' lo O R (({ bK c y.cell y.seen D m with words:=c.words ++ [0] },{ y with mine:=m },true)) r):=by
  constructor
  case' left =>
    intro U
    have G:Hid (0=0):=rfl
  case' right =>
    intro U
    have H:Hid (0=0):=rfl
  all_goals
    obtain ⟨i,M⟩:∃ i:Nat,y.cell=(i:Int):=⟨y.cell.toNat,by omega⟩
    have hi:i<c.cells.length:=by omega
    have ab:(m == 0)=false:=by simp;omega
    have ac:¬ m=0:=by omega
    obtain ⟨L,hL⟩:∃ L,L=c.words ++ [0]:=⟨_,rfl⟩
    have a3:=aA fun O R lo W a1 a2=>Fs c O R lo L m W a1 a2 hc hf hL hm
    have T:=aA fun (u1 u2:Value) (lo:Nat) (W:World) (x1:aD W lo u1 c.cells) (x2:aG W lo u2 L)=>l8 { c with words:=L } i y.seen D m u1 u2 lo W x1 x2 hi
    first
    | (replace G:=G;have N:bQ { c with words:=L } i y.seen D m=false:=by rw [← U,M];rfl)
    | (replace H:=H;have N:bQ { c with words:=L } i y.seen D m=true:=by rw [← U,M];rfl)
    rw [N] at T
    first
    | replace G:=G
    | (replace H:=H
       have e0:({ bK c y.cell y.seen D m with words:=c.words ++ [0] },{ y with mine:=m },true)=(({ bK c i y.seen D m with words:=L },{ y with mine:=m },true):St):=by rw [M,hL]
       rw [e0]
       clear e0)
    clear hm hf hL U N a7 a8
    have b1:=kY h1
    have b2:=kY h2
    have o1:=h1
    have o2:=h2
    obtain ⟨a1,q1,e1,_⟩:=h1.seg
    obtain ⟨a2,q2,e2,_⟩:=h2.seg
    subst e1 e2
    clear h1 h2
    go_enter func255,ntmps255
    go_wp2_with fail;refine aK w zB fun bb=>?_;refine (a3.out _ _ lo _ (zO o1 o1) (zO o2 o2)).mono ?_;rintro _ w1 ⟨⟨I,y2,rfl,u,A⟩,F⟩;obtain ⟨V,Y,J⟩:=yL bb F (b:=w);(try simp at Y);(try simp [go_sem] at J);replace bX:=ll J;clear J;have a9:=V;clear F bb
    try simp at u A
    have a4:fC w (.slice a1 c.cells q1) I:=fun j hj=>.inr (by have:=(u.lt j hj).1;omega)
    have a5:fC w (.slice a2 c.words q2) y2:=fun j hj=>.inr (by have:=(A.lt j hj).1;omega)
    have n0:some (w.heap.size)≠I.ownBlock:=fun e=>by have:=(u.lt _ e.symm).1;omega
    have n1:some (w.heap.size+1)≠I.ownBlock:=fun e=>by have:=(u.lt _ e.symm).1;omega
    have n2:some (w.heap.size+1+1)≠I.ownBlock:=fun e=>by have:=(u.lt _ e.symm).1;omega
    have n3:some (w.heap.size+1+1+1)≠I.ownBlock:=fun e=>by have:=(u.lt _ e.symm).1;omega
    have n4:some (w.heap.size+1+1+1+1)≠I.ownBlock:=fun e=>by have:=(u.lt _ e.symm).1;omega
    have n5:some w1.heap.size≠I.ownBlock:=fun e=>by have:=(u.lt _ e.symm).2;omega
    have a0:∀ k,I.ownBlock=some k→w.heap.size≤k:=fun k hk=>by have:=(u.lt k hk).1;omega
    obtain ⟨ya,yp,e1,_⟩:=u.seg
    obtain ⟨yb,yq,e2,_⟩:=A.seg
    subst e1 e2
    obtain ⟨k0,k1,k2,k3⟩:=mF (a:=w) (b:=w1)
    have k4:w+1+1+1+1<w1.heap.size:=by omega
    have r1:=aH (lo':=lo) u tO
    have r2:=aH (lo':=lo) A tO
    go_wp2_with fail;refine (T.out _ _ lo _ (zO r1 u) (zO r2 A)).mono ?_;rintro _ E ⟨rfl,p1,p2,q⟩;have Z:=q.size;(try (simp at Z));have J:=And.intro (bE q (b:=w1) tS (by assumption)) <| And.intro (bE q (b:=w+1+1+1+1) tS (by assumption)) <| And.intro (bE q (b:=w+1+1+1) tS (by assumption)) <| And.intro (bE q (b:=w+1+1) tS (by assumption)) <| And.intro (bE q (b:=w+1) tS (by assumption)) <| bE q (b:=w) tS (by assumption);(first|simp [go_sem,bX,k0,k1,k2,k3,k4] at J|simp [go_sem] at J|skip);replace bX:=Rp J;clear J;have X:=I6 (w:=w) zB q;clear q
    have a6:jI (Value.slice ya c.cells yp).ownBlock (Value.slice ya c.cells yp).ownBlock w E:=mY X
    have K:Below w w E:=I4 (Below.refl _ _) a6 a0 a0
    have ad:=K.size
    have j0:w<E.heap.size:=by omega
    have j1:w+1<E.heap.size:=by omega
    have j2:w+1+1<E.heap.size:=by omega
    have j3:w+1+1+1<E.heap.size:=by omega
    have j4:w+1+1+1+1<E.heap.size:=by omega
    first
    | (replace G:=G
       have s1:=own_below o1 K
       have s2:=own_below o2 K)
    | (replace H:=H
       have s1:aD E lo (.slice ya c.cells yp) (bK c i y.seen D m).cells:=p1
       have s2:aG E lo (.slice yb L.length yq) L:=p2)
    go_wp2_with fail
    go_region
    all_goals go_wp2
    first
    | (replace G:=G
       all_goals (refine rE results255 rfl (aO c (.slice a1 c.cells q1) (.slice a2 c.words q2) tZ) rfl (aJ z tZ) ⟨⟨_,_,rfl,?_,?_,aM _ _,aM _ _⟩,by exact zB⟩)
       all_goals first|(show aD _ _ _ c.cells;exact zO s1 o1)|skip
       all_goals (show aG _ _ _ c.words;exact zO s2 o2))
    | (replace H:=H
       all_goals (refine rE results255 rfl (aO c (.slice ya c.cells yp) (.slice yb L.length yq) tZ) rfl (aJ { y with mine:=m } tZ) ⟨⟨_,_,rfl,?_,?_,a4,a5⟩,by exact zB⟩)
       all_goals first|(show aD _ _ _ (bK c i y.seen D m).cells;exact zO s1 u)|skip
       all_goals (show aG _ _ _ L;exact zO s2 A))
theorem Jl (c:Ch) (F:Int) (y z:Ha) (q u:Value) (lo:Nat) (w:World) (h1:aD w lo q c.cells) (G:aG w lo u c.words) (A:0≤y.cell) (D:y.cell<c.cells.length) (H:aW c=true) (E:lo≤w.heap.size) (I:¬ 80≤c.words.length) (m:Int) (J:m=(c.words.length:Int)+1) (K:bQ c y.cell y.seen F m=false) :
    Calls prog 255 #[.agg (aF c q u),.int .i64 F,.agg (aB y),.agg (aB z)] w fun r w'=>StepB w w' lo q u ((c,z,true)) r:=(wC c F y z q u lo w h1 G A D H E I m J).1 K
theorem Fu (c:Ch) (q:Int) (y z:Ha) (u A:Value) (lo:Nat) (w:World) (h1:aD w lo u c.cells) (G:aG w lo A c.words) (D:0≤y.cell) (E:y.cell<c.cells.length) (H:aW c=true) (F:lo≤w.heap.size) (I:¬ 80≤c.words.length) (m:Int) (J:m=(c.words.length:Int)+1) (K:bQ c y.cell y.seen q m=true) :
    Calls prog 255 #[.agg (aF c u A),.int .i64 q,.agg (aB y),.agg (aB z)] w fun r w'=>StepB w w' lo u A (({ bK c y.cell y.seen q m with words:=c.words ++ [0] },{ y with mine:=m },true)) r:=(wC c q y z u A lo w h1 G D E H F I m J).2 K
def zw (c:Ch) (st:Int) (y z:Ha):St :=
  if 80≤c.words.length then (c,aV 4 0,true) else
  if bQ c y.cell y.seen st (c.words.length+1) then ({ bK c y.cell y.seen st (c.words.length+1) with words:=c.words ++ [0] },{ y with mine:=c.words.length+1 },true) else (c,z,true)
theorem wD (c:Ch) (m:Int) (y z:Ha) (u A:Value) (lo:Nat) (w:World) (h1:aD w lo u c.cells) (H:aG w lo A c.words) (D:0≤y.cell) (E:y.cell<c.cells.length) (I:aW c=true) (F:lo≤w.heap.size) :
    Calls prog 255 #[.agg (aF c u A),.int .i64 m,.agg (aB y),.agg (aB z)] w fun r w'=>StepB w w' lo u A (zw c m y z) r:=by
  by_cases q:80≤c.words.length
  · rw [show zw c m y z=(c,aV 4 0,true) by simp [zw,q]]
    exact Dh c m y z u A lo w h1 H I q
  · cases G:bQ c y.cell y.seen m (c.words.length+1) with
    | true =>
      rw [show zw c m y z=({ bK c y.cell y.seen m (c.words.length+1) with words:=c.words ++ [0] },{ y with mine:=c.words.length+1 },true) by simp [zw,q,G]]
      exact Fu c m y z u A lo w h1 H D E I F q _ rfl G
    | false =>
      rw [show zw c m y z=(c,z,true) by simp [zw,q,G]]
      exact Jl c m y z u A lo w h1 H D E I F q _ rfl G
end
section
open Go.RowKit
attribute [local simp] aP
attribute [local go_sem ↓] aQ bF aY bY aZ bZ aX bB aN aU
theorem Jm {l:List Int} {n:Int} {k:Nat} {m:Int} (r:k<l.length) (q:l.getD k 0=m) (e:(m == n)=true):jJ (l.take (k+1)) n=jJ (l.take k) n+1:=by
 rw [iM l k 0 r,q];simp [jJ,List.filter_append,e]
theorem LH {l:List Int} {n:Int} {k:Nat} {m:Int} (r:k<l.length) (q:l.getD k 0=m) (e:(m == n)=false):jJ (l.take (k+1)) n=jJ (l.take k) n:=by
 rw [iM l k 0 r,q];simp [jJ,List.filter_append,e]
theorem Jn (l:List Int) (n:Int) (k:Nat):jJ (l.take k) n≤k:=by
 have h:=List.length_filter_le (fun m:Int=>m == n) (l.take k)
 have:=List.length_take_le k l
 unfold jJ
 omega
theorem mI (l:List Int) (n:Int) (d:Option Addr) (s:Nat) (w:World) (u:fD w w d l) (O:l.length≤1099511627776) :
  Calls prog 62 #[.slice d l.length s,.int .i64 n] w fun I w'=>I=.returned (.int .i64 (jJ l n))∧w'=w:=by
 have E:=aA (congrArg (fun z=>jJ z n) (List.take_length (l:=l)))
 have D:=aA u
 clear u
 go_enter func62,ntmps62
 go_wp2
 go_loopw [5,6] (fun v i wr=>wr=w∧∃ k:Nat,k≤l.length∧i=.int .i64 k∧v=.int .i64 (jJ (l.take k) n)) (fun _ i _=>l.length - (intOf i).toNat)
 case atStart=>exact ⟨rfl,0,Nat.zero_le _,rfl,rfl⟩
 case round =>
  obtain ⟨rfl,k,N,rfl,rfl⟩:=hrel
  by_cases m:k<l.length
  ·obtain L|⟨J,K,rfl,M,y⟩:=D.out
   ·omega
   have c0:=y k 0 m tO
   simp only [jT,Nat.mul_one,Nat.add_zero] at c0
   clear y
   generalize q:l.getD k 0=x at c0
   have r:=aA q
   clear q
   have H:=Jn l n k
   have F:(0:Int)≤(k:Int):=by omega
   have G:(k:Int)<(l.length:Int):=by omega
   by_cases A:x=n
   ·have e:=Jm (n:=n) m r.out (by simp [A])
    go_wp2
    go_roundw
    case rel=>exact ⟨trivial,k+1,by omega,by go_num,by rw [e];go_num⟩
    case measure=>simp [intOf];omega
   ·have e:=LH (n:=n) m r.out (by simp [A])
    go_wp2
    go_roundw
    case rel=>exact ⟨trivial,k+1,by omega,by go_num,by rw [e]⟩
    case measure=>simp [intOf];omega
  ·have:k=l.length:=by omega
   subst this
   go_wp2
   go_ret
   exact ⟨by rw [E.out];rfl,rfl⟩
end
end Go.Proofs.YtffhjmepfojhnaaGreat
