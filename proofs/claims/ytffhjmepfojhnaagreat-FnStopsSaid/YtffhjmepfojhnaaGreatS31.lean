/-
  The program's touch of growing, case by case, on hands and channels that are kept whole; the lists are the call's own.
-/
import Derived.Test.YtffhjmepfojhnaaGreatS01
import Derived.Test.YtffhjmepfojhnaaGreatS26
import Derived.LoopN
import Derived.WalkMore
import Derived.BigRegion
import Derived.Deep.DeepCutAuto
import Derived.Deep.RegionHeld3
set_option maxRecDepth 100000
set_option maxHeartbeats 2000000
set_option linter.unusedSimpArgs false
set_option linter.unusedVariables false
namespace Go.Proofs.YtffhjmepfojhnaaGreat
open _root_.Go.Proofs.Tryz
open Go.RowKit
attribute [local simp] aP
attribute [local go_sem ↓] aQ bF aY bY aZ bZ aX bB aN aU
theorem xN (c:Ch) (h:Ha) (O R:Value) (lo:Nat) (w:World) (h1:aD w lo O c.cells) (J:aG w lo R c.words) (hg:(c.cap == 0)=true) (m:eB h.code h.elem=true) (z:0≤h.nxt∧h.nxt≤2) (hq:(h.pos == 16)=true) (hk:(h.code != 2)=false) :
    dG 268 c h O R lo w ((c,dP h,true)):=by
  obtain ⟨D,u⟩:∃ D,dP h=D:=⟨_,rfl⟩
  have F:=aA fun W=>mO h W m z
  rw [u] at F
  rw [u]
  clear u m z
  obtain ⟨G,M,H,N,rfl,rfl,T,U,Y,Z⟩:=rR h1 J
  clear h1 J
  have K:=T.out
  have L:=U.out
  go_enter func268,ntmps268
  go_wp2
  go_step3
  go_wp2
  go_step3
  go_wp2
  refine wp_loop_rounds 2 ?_
  rw [rounds_succ]
  go_wp2_with fail
  rw [rounds_succ]
  go_wp2_with fail
  go_region_held3 (fun w'=>hp w' w=some (.cells (aF c (.slice G c.cells M) (.slice H c.words N)) 31)∧hp w' (w+1)=some (.cells (aB h) 49))
    (first|(simp [*,go_sem]))
    (first|((go_at_call 271;refine aK w zB fun I=>?_;refine (F.out _).mono ?_;rintro _ w2 ⟨rfl,r⟩;obtain ⟨y,A,E⟩:=fH I r (b:=w);(try simp at A);(try simp [go_sem] at E);replace bX:=dW E;clear E;have q:=y;clear r I);have V:=own_below K q;have X:=own_below L q))
  go_wp2
  try rw [Exit.noGoto_ret]
  refine rE results268 rfl (aO c (.slice G c.cells M) (.slice H c.words N) tZ) rfl (aJ D tZ) ⟨⟨_,_,rfl,?_,?_,aM _ _,aM _ _⟩,dR zB⟩
  · exact zO V K
  · exact zO X L
theorem xO (c:Ch) (h:Ha) (O R:Value) (lo:Nat) (w:World) (h1:aD w lo O c.cells) (J:aG w lo R c.words) (hg:(c.cap == 0)=false) (hf:(c.fin == 40)=true) (m:eB h.code h.elem=true) (z:0≤h.nxt∧h.nxt≤2) (hq:(h.pos == 16)=true) (hk:(h.code != 2)=false) :
    dG 268 c h O R lo w ((c,dP h,true)):=by
  obtain ⟨D,u⟩:∃ D,dP h=D:=⟨_,rfl⟩
  have F:=aA fun W=>mO h W m z
  rw [u] at F
  rw [u]
  clear u m z
  obtain ⟨G,M,H,N,rfl,rfl,T,U,Y,Z⟩:=rR h1 J
  clear h1 J
  have K:=T.out
  have L:=U.out
  go_enter func268,ntmps268
  go_wp2
  go_step3
  go_wp2
  go_step3
  go_wp2
  refine wp_loop_rounds 2 ?_
  rw [rounds_succ]
  go_wp2_with fail
  rw [rounds_succ]
  go_wp2_with fail
  go_region_held3 (fun w'=>hp w' w=some (.cells (aF c (.slice G c.cells M) (.slice H c.words N)) 31)∧hp w' (w+1)=some (.cells (aB h) 49))
    (first|(simp [*,go_sem]))
    (first|((go_at_call 271;refine aK w zB fun I=>?_;refine (F.out _).mono ?_;rintro _ w2 ⟨rfl,r⟩;obtain ⟨y,A,E⟩:=fH I r (b:=w);(try simp at A);(try simp [go_sem] at E);replace bX:=dW E;clear E;have q:=y;clear r I);have V:=own_below K q;have X:=own_below L q))
  go_wp2
  try rw [Exit.noGoto_ret]
  refine rE results268 rfl (aO c (.slice G c.cells M) (.slice H c.words N) tZ) rfl (aJ D tZ) ⟨⟨_,_,rfl,?_,?_,aM _ _,aM _ _⟩,dR zB⟩
  · exact zO V K
  · exact zO X L
theorem xP (c:Ch) (h:Ha) (E F:Value) (lo:Nat) (w:World) (h1:aD w lo E c.cells) (L:aG w lo F c.words) (z:0≤c.fin∧c.fin≤40) (hg:(c.cap == 0)=false) (hf:(c.fin == 40)=false) (hq:(h.pos == 16)=true) (hk:(h.code != 2)=false) :
    dG 268 c h E F lo w (({ c with fin:=c.fin+1 },{ h with grow:=c.fin,pos:=17 },true)):=by
  have T:=aA fun W a b=>wK c h E F lo W a b z
  change Hid (∀ W,_→_→Calls _ _ _ _ (fun r w'=>dJ W w' lo E F (({ c with fin:=c.fin+1 },{ h with grow:=c.fin,pos:=17 },true)) r)) at T
  clear z
  generalize ({ c with fin:=c.fin+1 },{ h with grow:=c.fin,pos:=17 },true)=x at *
  obtain ⟨O,q1,R,q2,rfl,rfl,M,N,U,V,m1,m2,Y,a4,Z,a5,a0,a6,a3,a7⟩:=Ep h1 L
  clear h1 L
  go_enter func268,ntmps268
  go_wp2
  go_step3
  go_wp2
  go_step3
  go_wp2
  refine wp_loop_rounds 2 ?_
  rw [rounds_succ]
  go_wp2_with fail
  refine (T.out _ (zO M M) (zO N N)).mono ?_
  rintro _ w3 ⟨⟨y1,y2,rfl,u,y,G,H⟩,D⟩
  have X:jI (Value.slice O c.cells q1).ownBlock (Value.slice R c.words q2).ownBlock w w3:=gU (dR zB) D
  have A:=D.2.2.2.1;(try (simp at A));have K:=xD D (b:=w);(try simp [go_sem] at K);replace bX:=dW K;clear K
  clear D
  obtain ⟨⟨m,q⟩,I,J⟩:=sO (w:=w) (w+1+1+1+1) G H U V;obtain ⟨ya,yp,rfl,_⟩:=u.seg;obtain ⟨yb,yq,rfl,_⟩:=y.seg
  go_wp2
  try rw [Exit.noGoto_ret]
  refine rE results268 rfl (aO x.1 (.slice ya x.1.cells yp) (.slice yb x.1.words yq) tY) rfl (aJ x.2.1 tY) ⟨⟨_,_,rfl,?_,?_,I,J⟩,by exact zN⟩
  · exact zP u u m
  · exact zP y y q
theorem xQ (c:Ch) (h:Ha) (O R:Value) (lo:Nat) (w:World) (h1:aD w lo O c.cells) (J:aG w lo R c.words) (hg:c.sent≤h.grow) (m:eB h.code h.elem=true) (z:0≤h.nxt∧h.nxt≤2) (V:(h.pos == 17)=true) (hk:(h.code != 2)=false) :
    dG 268 c h O R lo w ((c,dP h,true)):=by
  obtain ⟨D,u⟩:∃ D,dP h=D:=⟨_,rfl⟩
  have F:=aA fun W=>mO h W m z
  rw [u] at F
  rw [u]
  clear u m z
  have X:(h.pos == 16)=false:=by simp at V ⊢;omega
  obtain ⟨G,M,H,N,rfl,rfl,T,U,b1,b2⟩:=rR h1 J
  clear h1 J
  have K:=T.out
  have L:=U.out
  go_enter func268,ntmps268
  go_wp2
  go_step3
  go_wp2
  go_step3
  go_wp2
  refine wp_loop_rounds 2 ?_
  rw [rounds_succ]
  go_wp2_with fail
  rw [rounds_succ]
  go_wp2_with fail
  go_region_held3 (fun w'=>hp w' w=some (.cells (aF c (.slice G c.cells M) (.slice H c.words N)) 31)∧hp w' (w+1)=some (.cells (aB h) 49))
    (first|(simp [*,go_sem]))
    (first|((go_at_call 271;refine aK w zB fun I=>?_;refine (F.out _).mono ?_;rintro _ w2 ⟨rfl,r⟩;obtain ⟨y,A,E⟩:=fH I r (b:=w);(try simp at A);(try simp [go_sem] at E);replace bX:=dW E;clear E;have q:=y;clear r I);have Y:=own_below K q;have Z:=own_below L q))
  go_wp2
  try rw [Exit.noGoto_ret]
  refine rE results268 rfl (aO c (.slice G c.cells M) (.slice H c.words N) tZ) rfl (aJ D tZ) ⟨⟨_,_,rfl,?_,?_,aM _ _,aM _ _⟩,dR zB⟩
  · exact zO Y K
  · exact zO Z L
theorem xR (c:Ch) (h:Ha) (J K:Value) (lo:Nat) (w:World) (h1:aD w lo J c.cells) (E:aG w lo K c.words) (Y:¬ c.sent≤h.grow) (N:(h.pos == 17)=true) (Z:(h.code != 2)=false) :
    dG 268 c h J K lo w ((c,{ h with pos:=18 },true)):=by
  have O:(h.pos == 16)=false:=by simp at N ⊢;omega
  obtain ⟨z,H,A,I,rfl,rfl,L,M,U,V⟩:=rR h1 E
  clear h1 E
  have F:=L.out
  have G:=M.out
  go_enter func268,ntmps268
  go_wp2
  go_step3
  go_wp2
  go_step3
  go_wp2
  refine wp_loop_rounds 2 ?_
  rw [rounds_succ]
  go_wp2_with fail
  go_region_held3 (fun w'=>hp w' w=some (.cells (aF c (.slice z c.cells H) (.slice A c.words I)) 31)∧hp w' (w+1)=some (.cells (aB h) 49))
    (first|(simp [*,go_sem]))
    (first|((go_at_call 247;refine aK w zB fun D=>?_;refine (dL _ _ _).mono ?_;rintro _ w2 ⟨rfl,q⟩;obtain ⟨r,u,y⟩:=fH D q (b:=w);(try simp at u);(try simp [go_sem] at y);replace X:=dW y;clear y;have m:=r;clear q D);have R:=own_below F m;have T:=own_below G m))
  go_wp2
  try rw [Exit.noGoto_ret]
  refine rE results268 rfl (aO c (.slice z c.cells H) (.slice A c.words I) tZ) rfl (aJ { h with pos:=18 } tZ) ⟨⟨_,_,rfl,?_,?_,aM _ _,aM _ _⟩,dR zB⟩
  · exact zO R F
  · exact zO T G
theorem wW (c:Ch) (h:Ha) (H I:Value) (lo:Nat) (w:World) (h1:aD w lo H c.cells) (r:aG w lo I c.words) (M:0≤h.grow) (N:h.grow<c.cells.length) (u:(cellAt c h.grow).s=5) (D:(h.pos == 18)=true) (hk:(h.code != 2)=false) :
    dG 268 c h H I lo w ((c,h,false)):=by
  have a6:(h.pos == 16)=false:=by simp at D ⊢;omega
  have a7:(h.pos == 17)=false:=by simp at D ⊢;omega
  obtain ⟨i,q⟩:∃ i:Nat,h.grow=(i:Int):=⟨h.grow.toNat,by omega⟩
  have R:i<c.cells.length:=by omega
  have T:(0:Int)≤(i:Int):=by omega
  have U:(i:Int)<(c.cells.length:Int):=by omega
  have X:=h1.ne r
  obtain ⟨L,q2,rfl,_⟩:=r.seg
  obtain ⟨g,q1,rfl,A,V,m,O⟩:=h1.open1 R
  have J:=aA h1
  have K:=aA r
  have Y:g<w.heap.size+1:=by omega
  have Z:g<w.heap.size+1+1:=by omega
  have a0:g<w.heap.size+1+1+1:=by omega
  have a8:g≠w.heap.size:=by omega
  have a9:g≠w.heap.size+1:=by omega
  have aa:g≠w.heap.size+1+1:=by omega
  have ab:g≠w.heap.size+1+1+1:=by omega
  have a1:w.heap.size≠g:=by omega
  have a3:w.heap.size+1≠g:=by omega
  have a4:w.heap.size+1+1≠g:=by omega
  have a5:w.heap.size+1+1+1≠g:=by omega
  have E:Hid (cellAt c h.grow=c.cells.getD i ⟨0,0,0⟩):=by simp [cellAt,Hid,q]
  have c0:=m 0 tO
  have y:=m 1 tO
  have c2:=m 2 tO
  simp only [C3.val,Nat.add_zero] at c0 y c2
  have z:=E.out
  rw [z] at u
  generalize c.cells.getD i ⟨0,0,0⟩=x at *
  obtain ⟨s,e,t⟩:=x
  simp only at u c0 y c2
  subst u
  clear E z m h1 r
  have F:=J.out
  have G:=K.out
  go_enter func268,ntmps268
  go_wp2
  go_step3
  go_wp2
  go_step3
  go_wp2
  refine wp_loop_rounds 2 ?_
  rw [rounds_succ]
  have r1:=F
  have r2:=G
  go_wp2_with fail
  go_region
  go_wp2
  try rw [Exit.noGoto_ret]
  refine rE results268 rfl (aO c (.slice (some ⟨g,0,none⟩) c.cells q1) (.slice L c.words q2) tZ) rfl (aJ h (by simp [go_sem, *] <;> first|rfl|simp [cZ,q])) ⟨⟨_,_,rfl,?_,?_,aM _ _,aM _ _⟩,dR zB⟩
  · exact zO r1 F
  · exact zO r2 G
theorem wX (c:Ch) (h:Ha) (Z v2:Value) (lo:Nat) (w:World) (h1:aD w lo Z c.cells) (I:aG w lo v2 c.words) (a0:0≤h.grow) (a1:h.grow<c.cells.length) (J:(cellAt c h.grow).s=0) (U:(h.pos == 18)=true) (hk:(h.code != 2)=false) :
    dG 268 c h Z v2 lo w ((c,{ cZ h (cellAt c h.grow) with pos:=19 },true)):=by
  have af:(h.pos == 16)=false:=by simp at U ⊢;omega
  have ag:(h.pos == 17)=false:=by simp at U ⊢;omega
  obtain ⟨i,F⟩:∃ i:Nat,h.grow=(i:Int):=⟨h.grow.toNat,by omega⟩
  have hi:i<c.cells.length:=by omega
  have a4:(0:Int)≤(i:Int):=by omega
  have a5:(i:Int)<(c.cells.length:Int):=by omega
  have a7:=h1.ne I
  obtain ⟨M,Y,rfl,_⟩:=I.seg
  obtain ⟨g,X,rfl,T,a6,m,a3⟩:=h1.open1 hi
  have O1:=aA h1
  have O2:=aA I
  have a8:g<w.heap.size+1:=by omega
  have a9:g<w.heap.size+1+1:=by omega
  have aa:g<w.heap.size+1+1+1:=by omega
  have ah:g≠w.heap.size:=by omega
  have ai:g≠w.heap.size+1:=by omega
  have aj:g≠w.heap.size+1+1:=by omega
  have ak:g≠w.heap.size+1+1+1:=by omega
  have ab:w.heap.size≠g:=by omega
  have ac:w.heap.size+1≠g:=by omega
  have ad:w.heap.size+1+1≠g:=by omega
  have ae:w.heap.size+1+1+1≠g:=by omega
  have V:Hid (cellAt c h.grow=c.cells.getD i ⟨0,0,0⟩):=by simp [cellAt,Hid,F]
  have c0:=m 0 tO
  have O:=m 1 tO
  have c2:=m 2 tO
  simp only [C3.val,Nat.add_zero] at c0 O c2
  have R:=V.out
  rw [R] at J ⊢
  generalize c.cells.getD i ⟨0,0,0⟩=x at *
  obtain ⟨s,e,t⟩:=x
  simp only at J c0 O c2
  subst J
  clear V R m h1 I
  have K:=O1.out
  have L:=O2.out
  go_enter func268,ntmps268
  go_wp2
  go_step3
  go_wp2
  go_step3
  go_wp2
  refine wp_loop_rounds 2 ?_
  rw [rounds_succ]
  go_wp2_with fail;refine aK w zB fun A=>?_;refine (kN h 0 e t _).mono ?_;rintro _ w1 ⟨rfl,u⟩;obtain ⟨D,G,z⟩:=yL A u (b:=w);(try simp at G);(try simp [go_sem] at z);replace N:=ll z;clear z;have q:=D;clear u A
  have p1:=own_below K q
  have p2:=own_below L q
  obtain ⟨k0,k1,k2,k3⟩:=mF (a:=w) (b:=w1)
  have k4:w+1+1+1+1<w1.heap.size:=by omega
  go_wp2_with fail
  go_region_held3 (fun w'=>hp w' w=some (.cells (aF c (.slice (some ⟨g,0,none⟩) c.cells X) (.slice M c.words Y)) 31)∧hp w' (w+1)=some (.cells (aB { h with grow:=(i:Int),seen:=0,wait:=t }) 49))
    (first|(simp [*,go_sem]))
    (first|((go_at_call 247;refine aK w zB fun A=>?_;refine (dL _ _ _).mono ?_;rintro _ w2 ⟨rfl,y⟩;obtain ⟨E,H,z⟩:=fH A y (b:=w);(try simp at H);(first|simp [go_sem,N,k0,k1,k2,k3,k4] at z|simp [go_sem] at z|skip);replace N:=dW z;clear z;have r:=E;clear y A);have r1:=own_below K r;have r2:=own_below L r))
  go_wp2
  try rw [Exit.noGoto_ret]
  refine rE results268 rfl (aO c (.slice (some ⟨g,0,none⟩) c.cells X) (.slice M c.words Y) tZ) rfl (aJ { cZ h ⟨0,e,t⟩ with pos:=19 } (by simp [go_sem, *] <;> first|rfl|simp [cZ,F])) ⟨⟨_,_,rfl,?_,?_,aM _ _,aM _ _⟩,dR zB⟩
  · exact zO r1 K
  · exact zO r2 L
theorem wY (c:Ch) (h:Ha) (Z v2:Value) (lo:Nat) (w:World) (h1:aD w lo Z c.cells) (I:aG w lo v2 c.words) (a0:0≤h.grow) (a1:h.grow<c.cells.length) (J:(cellAt c h.grow).s=3) (U:(h.pos == 18)=true) (hk:(h.code != 2)=false) :
    dG 268 c h Z v2 lo w ((c,{ cZ h (cellAt c h.grow) with pos:=19 },true)):=by
  have af:(h.pos == 16)=false:=by simp at U ⊢;omega
  have ag:(h.pos == 17)=false:=by simp at U ⊢;omega
  obtain ⟨i,F⟩:∃ i:Nat,h.grow=(i:Int):=⟨h.grow.toNat,by omega⟩
  have hi:i<c.cells.length:=by omega
  have a4:(0:Int)≤(i:Int):=by omega
  have a5:(i:Int)<(c.cells.length:Int):=by omega
  have a7:=h1.ne I
  obtain ⟨M,Y,rfl,_⟩:=I.seg
  obtain ⟨g,X,rfl,T,a6,m,a3⟩:=h1.open1 hi
  have O1:=aA h1
  have O2:=aA I
  have a8:g<w.heap.size+1:=by omega
  have a9:g<w.heap.size+1+1:=by omega
  have aa:g<w.heap.size+1+1+1:=by omega
  have ah:g≠w.heap.size:=by omega
  have ai:g≠w.heap.size+1:=by omega
  have aj:g≠w.heap.size+1+1:=by omega
  have ak:g≠w.heap.size+1+1+1:=by omega
  have ab:w.heap.size≠g:=by omega
  have ac:w.heap.size+1≠g:=by omega
  have ad:w.heap.size+1+1≠g:=by omega
  have ae:w.heap.size+1+1+1≠g:=by omega
  have V:Hid (cellAt c h.grow=c.cells.getD i ⟨0,0,0⟩):=by simp [cellAt,Hid,F]
  have c0:=m 0 tO
  have O:=m 1 tO
  have c2:=m 2 tO
  simp only [C3.val,Nat.add_zero] at c0 O c2
  have R:=V.out
  rw [R] at J ⊢
  generalize c.cells.getD i ⟨0,0,0⟩=x at *
  obtain ⟨s,e,t⟩:=x
  simp only at J c0 O c2
  subst J
  clear V R m h1 I
  have K:=O1.out
  have L:=O2.out
  go_enter func268,ntmps268
  go_wp2
  go_step3
  go_wp2
  go_step3
  go_wp2
  refine wp_loop_rounds 2 ?_
  rw [rounds_succ]
  go_wp2_with fail;refine aK w zB fun A=>?_;refine (kN h 3 e t _).mono ?_;rintro _ w1 ⟨rfl,u⟩;obtain ⟨D,G,z⟩:=yL A u (b:=w);(try simp at G);(try simp [go_sem] at z);replace N:=ll z;clear z;have q:=D;clear u A
  have p1:=own_below K q
  have p2:=own_below L q
  obtain ⟨k0,k1,k2,k3⟩:=mF (a:=w) (b:=w1)
  have k4:w+1+1+1+1<w1.heap.size:=by omega
  go_wp2_with fail
  go_region_held3 (fun w'=>hp w' w=some (.cells (aF c (.slice (some ⟨g,0,none⟩) c.cells X) (.slice M c.words Y)) 31)∧hp w' (w+1)=some (.cells (aB { h with grow:=(i:Int),seen:=3,wait:=t }) 49))
    (first|(simp [*,go_sem]))
    (first|((go_at_call 247;refine aK w zB fun A=>?_;refine (dL _ _ _).mono ?_;rintro _ w2 ⟨rfl,y⟩;obtain ⟨E,H,z⟩:=fH A y (b:=w);(try simp at H);(first|simp [go_sem,N,k0,k1,k2,k3,k4] at z|simp [go_sem] at z|skip);replace N:=dW z;clear z;have r:=E;clear y A);have r1:=own_below K r;have r2:=own_below L r))
  go_wp2
  try rw [Exit.noGoto_ret]
  refine rE results268 rfl (aO c (.slice (some ⟨g,0,none⟩) c.cells X) (.slice M c.words Y) tZ) rfl (aJ { cZ h ⟨3,e,t⟩ with pos:=19 } (by simp [go_sem, *] <;> first|rfl|simp [cZ,F])) ⟨⟨_,_,rfl,?_,?_,aM _ _,aM _ _⟩,dR zB⟩
  · exact zO r1 K
  · exact zO r2 L
theorem wZ (c:Ch) (h:Ha) (Z v2:Value) (lo:Nat) (w:World) (h1:aD w lo Z c.cells) (I:aG w lo v2 c.words) (a0:0≤h.grow) (a1:h.grow<c.cells.length) (J:(cellAt c h.grow).s=9) (U:(h.pos == 18)=true) (hk:(h.code != 2)=false) :
    dG 268 c h Z v2 lo w ((c,{ cZ h (cellAt c h.grow) with pos:=16 },true)):=by
  have af:(h.pos == 16)=false:=by simp at U ⊢;omega
  have ag:(h.pos == 17)=false:=by simp at U ⊢;omega
  obtain ⟨i,F⟩:∃ i:Nat,h.grow=(i:Int):=⟨h.grow.toNat,by omega⟩
  have hi:i<c.cells.length:=by omega
  have a4:(0:Int)≤(i:Int):=by omega
  have a5:(i:Int)<(c.cells.length:Int):=by omega
  have a7:=h1.ne I
  obtain ⟨M,Y,rfl,_⟩:=I.seg
  obtain ⟨g,X,rfl,T,a6,m,a3⟩:=h1.open1 hi
  have O1:=aA h1
  have O2:=aA I
  have a8:g<w.heap.size+1:=by omega
  have a9:g<w.heap.size+1+1:=by omega
  have aa:g<w.heap.size+1+1+1:=by omega
  have ah:g≠w.heap.size:=by omega
  have ai:g≠w.heap.size+1:=by omega
  have aj:g≠w.heap.size+1+1:=by omega
  have ak:g≠w.heap.size+1+1+1:=by omega
  have ab:w.heap.size≠g:=by omega
  have ac:w.heap.size+1≠g:=by omega
  have ad:w.heap.size+1+1≠g:=by omega
  have ae:w.heap.size+1+1+1≠g:=by omega
  have V:Hid (cellAt c h.grow=c.cells.getD i ⟨0,0,0⟩):=by simp [cellAt,Hid,F]
  have c0:=m 0 tO
  have O:=m 1 tO
  have c2:=m 2 tO
  simp only [C3.val,Nat.add_zero] at c0 O c2
  have R:=V.out
  rw [R] at J ⊢
  generalize c.cells.getD i ⟨0,0,0⟩=x at *
  obtain ⟨s,e,t⟩:=x
  simp only at J c0 O c2
  subst J
  clear V R m h1 I
  have K:=O1.out
  have L:=O2.out
  go_enter func268,ntmps268
  go_wp2
  go_step3
  go_wp2
  go_step3
  go_wp2
  refine wp_loop_rounds 2 ?_
  rw [rounds_succ]
  go_wp2_with fail;refine aK w zB fun A=>?_;refine (kN h 9 e t _).mono ?_;rintro _ w1 ⟨rfl,u⟩;obtain ⟨D,G,z⟩:=yL A u (b:=w);(try simp at G);(try simp [go_sem] at z);replace N:=ll z;clear z;have q:=D;clear u A
  have p1:=own_below K q
  have p2:=own_below L q
  obtain ⟨k0,k1,k2,k3⟩:=mF (a:=w) (b:=w1)
  have k4:w+1+1+1+1<w1.heap.size:=by omega
  go_wp2_with fail
  go_region_held3 (fun w'=>hp w' w=some (.cells (aF c (.slice (some ⟨g,0,none⟩) c.cells X) (.slice M c.words Y)) 31)∧hp w' (w+1)=some (.cells (aB { h with grow:=(i:Int),seen:=9,wait:=t }) 49))
    (first|(simp [*,go_sem]))
    (first|((go_at_call 247;refine aK w zB fun A=>?_;refine (dL _ _ _).mono ?_;rintro _ w2 ⟨rfl,y⟩;obtain ⟨E,H,z⟩:=fH A y (b:=w);(try simp at H);(first|simp [go_sem,N,k0,k1,k2,k3,k4] at z|simp [go_sem] at z|skip);replace N:=dW z;clear z;have r:=E;clear y A);have r1:=own_below K r;have r2:=own_below L r))
  go_wp2
  try rw [Exit.noGoto_ret]
  refine rE results268 rfl (aO c (.slice (some ⟨g,0,none⟩) c.cells X) (.slice M c.words Y) tZ) rfl (aJ { cZ h ⟨9,e,t⟩ with pos:=16 } (by simp [go_sem, *] <;> first|rfl|simp [cZ,F])) ⟨⟨_,_,rfl,?_,?_,aM _ _,aM _ _⟩,dR zB⟩
  · exact zO r1 K
  · exact zO r2 L
theorem xc (c:Ch) (h:Ha) (v1 v2:Value) (lo:Nat) (w:World) (h1:aD w lo v1 c.cells) (L:aG w lo v2 c.words) (a0:0≤h.grow) (a1:h.grow<c.cells.length) (s5:((cellAt c h.grow).s == 5)=false) (s0:((cellAt c h.grow).s == 0)=false) (s3:((cellAt c h.grow).s == 3)=false) (s9:((cellAt c h.grow).s == 9)=false) (q:eB h.code h.elem=true) (I:0≤h.nxt∧h.nxt≤2) (Z:(h.pos == 18)=true) (hk:(h.code != 2)=false) :
    dG 268 c h v1 v2 lo w ((c,dP (cZ h (cellAt c h.grow)),true)):=by
  have af:(h.pos == 16)=false:=by simp at Z ⊢;omega
  have ag:(h.pos == 17)=false:=by simp at Z ⊢;omega
  obtain ⟨i,D⟩:∃ i:Nat,h.grow=(i:Int):=⟨h.grow.toNat,by omega⟩
  have hi:i<c.cells.length:=by omega
  have a4:(0:Int)≤(i:Int):=by omega
  have a5:(i:Int)<(c.cells.length:Int):=by omega
  have a7:=h1.ne L
  obtain ⟨T,q2,rfl,_⟩:=L.seg
  obtain ⟨g,q1,rfl,Y,a6,m,a3⟩:=h1.open1 hi
  have O1:=aA h1
  have O2:=aA L
  have a8:g<w.heap.size+1:=by omega
  have a9:g<w.heap.size+1+1:=by omega
  have aa:g<w.heap.size+1+1+1:=by omega
  have ah:g≠w.heap.size:=by omega
  have ai:g≠w.heap.size+1:=by omega
  have aj:g≠w.heap.size+1+1:=by omega
  have ak:g≠w.heap.size+1+1+1:=by omega
  have ab:w.heap.size≠g:=by omega
  have ac:w.heap.size+1≠g:=by omega
  have ad:w.heap.size+1+1≠g:=by omega
  have ae:w.heap.size+1+1+1≠g:=by omega
  have hx:Hid (cellAt c h.grow=c.cells.getD i ⟨0,0,0⟩):=by simp [cellAt,Hid,D]
  have c0:=m 0 tO
  have V:=m 1 tO
  have c2:=m 2 tO
  simp only [C3.val,Nat.add_zero] at c0 V c2
  have X:=hx.out
  rw [X] at s5 s0 s3 s9 ⊢
  generalize c.cells.getD i ⟨0,0,0⟩=x at *
  obtain ⟨s,e,t⟩:=x
  simp only at s5 s0 s3 s9 c0 V c2
  clear hx X m h1 L
  obtain ⟨O,E⟩:∃ O,dP { h with grow:=(i:Int),seen:=s,wait:=t }=O:=⟨_,rfl⟩
  have R:=aA fun W=>mO { h with grow:=(i:Int),seen:=s,wait:=t } W q I
  rw [show cZ h ⟨s,e,t⟩={ h with grow:=(i:Int),seen:=s,wait:=t } by rw [← D];rfl]
  rw [E] at R
  rw [E]
  clear E q I
  have M:=O1.out
  have N:=O2.out
  go_enter func268,ntmps268
  go_wp2
  go_step3
  go_wp2
  go_step3
  go_wp2
  refine wp_loop_rounds 2 ?_
  rw [rounds_succ]
  go_wp2_with fail;refine aK w zB fun F=>?_;refine (kN h s e t _).mono ?_;rintro _ w1 ⟨rfl,y⟩;obtain ⟨G,J,A⟩:=yL F y (b:=w);(try simp at J);(try simp [go_sem] at A);replace U:=ll A;clear A;have r:=G;clear y F
  have p1:=own_below M r
  have p2:=own_below N r
  obtain ⟨k0,k1,k2,k3⟩:=mF (a:=w) (b:=w1)
  have k4:w+1+1+1+1<w1.heap.size:=by omega
  go_wp2_with fail
  rw [rounds_succ]
  go_wp2_with fail
  go_region_held3 (fun w'=>hp w' w=some (.cells (aF c (.slice (some ⟨g,0,none⟩) c.cells q1) (.slice T c.words q2)) 31)∧hp w' (w+1)=some (.cells (aB { h with grow:=(i:Int),seen:=s,wait:=t }) 49))
    (first|(simp [*,go_sem]))
    (first|((go_at_call 271;refine aK w zB fun F=>?_;refine (R.out _).mono ?_;rintro _ w2 ⟨rfl,z⟩;obtain ⟨H,K,A⟩:=fH F z (b:=w);(try simp at K);(first|simp [go_sem,U,k0,k1,k2,k3,k4] at A|simp [go_sem] at A|skip);replace U:=dW A;clear A;have u:=H;clear z F);have r1:=own_below M u;have r2:=own_below N u))
  go_wp2
  try rw [Exit.noGoto_ret]
  refine rE results268 rfl (aO c (.slice (some ⟨g,0,none⟩) c.cells q1) (.slice T c.words q2) tZ) rfl (aJ O (by simp [go_sem, *] <;> first|rfl|simp [cZ,D])) ⟨⟨_,_,rfl,?_,?_,aM _ _,aM _ _⟩,dR zB⟩
  · exact zO r1 M
  · exact zO r2 N
theorem xS (c:Ch) (h:Ha) (F G:Value) (lo:Nat) (w:World) (h1:aD w lo F c.cells) (N:aG w lo G c.words) (z:0≤h.grow) (A:h.grow<c.cells.length) (hs:(h.seen != 0)=true) (L:(h.pos == 19)=true) (hk:(h.code != 2)=false) :
    dG 268 c h F G lo w (oh c h):=by
  have T:=aA fun W a b=>Ay c h F G lo W a b z A
  change Hid (∀ W,_→_→Calls _ _ _ _ (fun r w'=>dJ W w' lo F G (oh c h) r)) at T
  clear z A
  have aa:(h.pos == 16)=false:=by simp at L ⊢;omega
  have ab:(h.pos == 17)=false:=by simp at L ⊢;omega
  have ac:(h.pos == 18)=false:=by simp at L ⊢;omega
  generalize oh c h=x at *
  obtain ⟨U,q1,V,q2,rfl,rfl,O,R,X,Y,m1,m2,a0,a6,a3,a7,a4,a8,a5,a9⟩:=Ep h1 N
  clear h1 N
  go_enter func268,ntmps268
  go_wp2
  go_step3
  go_wp2
  go_step3
  go_wp2
  refine wp_loop_rounds 2 ?_
  rw [rounds_succ]
  go_wp2_with fail
  refine (T.out _ (zO O O) (zO R R)).mono ?_
  rintro _ w3 ⟨⟨y1,y2,rfl,u,y,H,I⟩,E⟩
  have Z:jI (Value.slice U c.cells q1).ownBlock (Value.slice V c.words q2).ownBlock w w3:=gU (dR zB) E
  have D:=E.2.2.2.1;(try (simp at D));have M:=xD E (b:=w);(try simp [go_sem] at M);replace bX:=dW M;clear M
  clear E
  obtain ⟨⟨m,q⟩,J,K⟩:=sO (w:=w) (w+1+1+1+1) H I X Y;obtain ⟨ya,yp,rfl,_⟩:=u.seg;obtain ⟨yb,yq,rfl,_⟩:=y.seg
  go_wp2
  try rw [Exit.noGoto_ret]
  refine rE results268 rfl (aO x.1 (.slice ya x.1.cells yp) (.slice yb x.1.words yq) tY) rfl (aJ x.2.1 tY) ⟨⟨_,_,rfl,?_,?_,J,K⟩,by exact zN⟩
  · exact zP u u m
  · exact zP y y q
theorem qf (c:Ch) (h:Ha) (O R:Value) (lo:Nat) (w:World) (h1:aD w lo O c.cells) (h2:aG w lo R c.words) (a3:0≤h.grow) (a4:h.grow<c.cells.length) (hs:(h.seen != 0)=false) :
    (∀ (q:eB h.code h.elem=true) (H:0≤h.nxt∧h.nxt≤2) (X:bQ c h.grow 0 1 0=true) (L:(h.pos == 19)=true) (hk:(h.code != 2)=false),Calls prog 268 #[.agg (aF c O R),.agg (aB h)] w fun r w'=>dJ w w' lo O R ((bK c h.grow 0 1 0,dP h,true)) r) ∧
    (∀ (X:bQ c h.grow 0 1 0=false) (L:(h.pos == 19)=true) (hk:(h.code != 2)=false),Calls prog 268 #[.agg (aF c O R),.agg (aB h)] w fun r w'=>dJ w w' lo O R ((bK c h.grow 0 1 0,{ h with pos:=18 },true)) r):=by
  constructor
  case' left =>
    intro q H X L hk
    have M:Hid (0=0):=rfl
  case' right =>
    intro X L hk
    have N:Hid (0=0):=rfl
  all_goals
    have ae:(h.pos == 16)=false:=by simp at L ⊢;omega
    have af:(h.pos == 17)=false:=by simp at L ⊢;omega
    have ag:(h.pos == 18)=false:=by simp at L ⊢;omega
    obtain ⟨i,G⟩:∃ i:Nat,h.grow=(i:Int):=⟨h.grow.toNat,by omega⟩
    have hi:i<c.cells.length:=by omega
    have T:=aA fun W a b=>l8 c i 0 1 0 O R lo W a b hi
    have I:=X
    rw [G] at I
    rw [I] at T
    have e0:bK c h.grow 0 1 0=bK c i 0 1 0:=by rw [G]
    rw [e0]
    first
    | (replace M:=M
       obtain ⟨y0,J⟩:∃ y0,dP h=y0:=⟨_,rfl⟩
       have GR:=aA fun W=>mO h W q H
       rw [J] at GR
       rw [J]
       clear J q H)
    | replace N:=N
    have b1:=kY h1
    have b2:=kY h2
    have m1:=nO b1
    have m2:=nO b2
    have a6:=m1 (w.heap.size) tO
    have aa:=m2 (w.heap.size) tO
    have a7:=m1 (w+1) tO
    have ab:=m2 (w+1) tO
    have a8:=m1 (w+1+1) tO
    have ac:=m2 (w+1+1) tO
    have a9:=m1 (w+1+1+1) tO
    have ad:=m2 (w+1+1+1) tO
    have Y:=h1
    have Z:=h2
    obtain ⟨A,E,e1,_⟩:=h1.seg
    obtain ⟨D,F,e2,_⟩:=h2.seg
    subst e1 e2
    clear h1 h2 X I e0 a3 a4
    go_enter func268,ntmps268
    go_wp2
    go_step3
    go_wp2
    go_step3
    go_wp2
    refine wp_loop_rounds 2 ?_
    rw [rounds_succ]
    go_wp2_with fail;refine (T.out _ (zO Y Y) (zO Z Z)).mono ?_;rintro _ w1 ⟨rfl,p1,p2,u⟩;have V:=u.size;(try (simp at V));have y:=PM u (b:=w);(try simp [go_sem] at y);replace bX:=dW y;clear y;have U:=I6 (w:=w) zB u;clear u
    have a5:jI (Value.slice A c.cells E).ownBlock (Value.slice D c.words F).ownBlock w w1:=mY U
    obtain ⟨k0,k1,k2,k3⟩:=mF (a:=w) (b:=w1)
    have u1:aD w1 lo (.slice A c.cells E) (bK c i 0 1 0).cells:=p1
    have u2:aG w1 lo (.slice D c.words F) (bK c i 0 1 0).words:=p2
    clear p1 p2
    go_wp2_with fail
    first
    | (replace M:=M
       rw [rounds_succ]
       go_wp2_with fail
       go_region_held3 (fun w'=>hp w' w=some (.cells (aF c (.slice A c.cells E) (.slice D c.words F)) 31)∧hp w' (w+1)=some (.cells (aB h) 49))
         (first|(simp [*,go_sem]))
         (first|(go_at_call 271;refine (GR.out _).mono ?_;rintro _ K ⟨rfl,m⟩;have a0:jI (Value.slice A c.cells E).ownBlock (Value.slice D c.words F).ownBlock w K:=gU zN (dR m);have p1:aD K lo (.slice A c.cells E) (bK c i 0 1 0).cells:=own_below (zO u1 Y) m;have p2:aG K lo (.slice D c.words F) c.words:=own_below (zO u2 Z) m;have z:=m.size;(try simp at z);have y:=BL m (b:=w);(first|simp [go_sem,bX,k0,k1,k2,k3] at y|simp [go_sem] at y|skip);replace bX:=dW y;clear y m)))
    | (replace N:=N
       go_region_held3 (fun w'=>hp w' w=some (.cells (aF c (.slice A c.cells E) (.slice D c.words F)) 31)∧hp w' (w+1)=some (.cells (aB h) 49))
         (first|(simp [*,go_sem]))
         (first|(go_at_call 247;refine (dL _ _ _).mono ?_;rintro _ K ⟨rfl,m⟩;have a0:jI (Value.slice A c.cells E).ownBlock (Value.slice D c.words F).ownBlock w K:=gU zN (dR m);have p1:aD K lo (.slice A c.cells E) (bK c i 0 1 0).cells:=own_below (zO u1 Y) m;have p2:aG K lo (.slice D c.words F) c.words:=own_below (zO u2 Z) m;have z:=m.size;(try simp at z);have y:=BL m (b:=w);(first|simp [go_sem,bX,k0,k1,k2,k3] at y|simp [go_sem] at y|skip);replace bX:=dW y;clear y m)))
    go_wp2
    try rw [Exit.noGoto_ret]
    first
    | (replace M:=M;refine rE results268 rfl (aO c (.slice A c.cells E) (.slice D c.words F) tZ) rfl (aJ y0 (by simp [go_sem, *] <;> first|rfl|simp [G])) ⟨⟨_,_,rfl,?_,?_,aM _ _,aM _ _⟩,by exact zN⟩)
    | (replace N:=N;refine rE results268 rfl (aO c (.slice A c.cells E) (.slice D c.words F) tZ) rfl (aJ { h with pos:=18 } (by simp [go_sem, *] <;> first|rfl|simp [G])) ⟨⟨_,_,rfl,?_,?_,aM _ _,aM _ _⟩,by exact zN⟩)
    · exact zO p1 Y
    · exact zO p2 Z
theorem xU (c:Ch) (h:Ha) (q u:Value) (lo:Nat) (w:World) (h1:aD w lo q c.cells) (D:aG w lo u c.words) (y:0≤h.grow) (z:h.grow<c.cells.length) (hs:(h.seen != 0)=false) (m:eB h.code h.elem=true) (A:0≤h.nxt∧h.nxt≤2) (G:bQ c h.grow 0 1 0=true) (F:(h.pos == 19)=true) (E:(h.code != 2)=false) :
    Calls prog 268 #[.agg (aF c q u),.agg (aB h)] w fun r w'=>dJ w w' lo q u ((bK c h.grow 0 1 0,dP h,true)) r:=(qf c h q u lo w h1 D y z hs).1 m A G F E
theorem xg (c:Ch) (h:Ha) (m q:Value) (lo:Nat) (w:World) (h1:aD w lo m c.cells) (z:aG w lo q c.words) (u:0≤h.grow) (y:h.grow<c.cells.length) (hs:(h.seen != 0)=false) (E:bQ c h.grow 0 1 0=false) (D:(h.pos == 19)=true) (A:(h.code != 2)=false) :
    Calls prog 268 #[.agg (aF c m q),.agg (aB h)] w fun r w'=>dJ w w' lo m q ((bK c h.grow 0 1 0,{ h with pos:=18 },true)) r:=(qf c h m q lo w h1 z u y hs).2 E D A
theorem AY (c:Ch) (h:Ha) (v1 v2:Value) (lo:Nat) (w:World) (h1:aD w lo v1 c.cells) (h2:aG w lo v2 c.words) (hc:aW c=true) (a0:lo≤w.heap.size) (hk:(h.code != 2)=false) (hq:(h.pos == 20)=true) :
    dG 268 c h v1 v2 lo w (BN c { h with pos:=21 } { h with pos:=22 }):=by
  have T0:=fun W a b D=>tL c { h with pos:=21 } { h with pos:=22 } v1 v2 lo W a b hc D
  change ∀ W,_→_→_→Calls _ _ _ _ (fun r w'=>StepB W w' lo v1 v2 (BN c { h with pos:=21 } { h with pos:=22 }) r) at T0
  clear hc
  have a3:(h.pos == 16)=false:=by simp at hq ⊢;omega
  have a4:(h.pos == 17)=false:=by simp at hq ⊢;omega
  have a5:(h.pos == 18)=false:=by simp at hq ⊢;omega
  have a6:(h.pos == 19)=false:=by simp at hq ⊢;omega
  generalize BN c { h with pos:=21 } { h with pos:=22 }=x at *
  obtain ⟨R,X,U,Y,rfl,rfl,O1,O2,b1,b2⟩:=rR h1 h2
  clear h1 h2
  have T:=aA T0
  clear T0
  have o1:=O1.out
  have o2:=O2.out
  go_enter func268,ntmps268
  go_wp2
  go_step3
  go_wp2
  go_step3
  go_wp2
  refine wp_loop_rounds 2 ?_
  rw [rounds_succ]
  go_upto_region 30 with fail
  refine iT [[],[],[1],[],[3],[0,1,2,3,4],[0,1,2,3,4,5],[0,1,2,3,4,5],[0,1,2,3,4,5],[0,1,2,3,4,5,6],[0,1,2,3,4,5,7],[0,1,2,3,4,5,8]] [99,100,101,102,103,104,105,106,107,6] (fun l s E=>(jI (Value.slice R c.cells X).ownBlock (Value.slice U c.words Y).ownBlock w E)∧(w+1+1+1+1≤E.heap.size)∧(hp E w=some (.cells (aF c (.slice R c.cells X) (.slice U c.words Y)) 31))∧(hp E (w+1)=some (.cells (aB h) 49))∧(hp E (w+1+1)=some (.cells (cond (l 9) (aF x.1 (s 1003) (s 1004)) (aF Ch.zero (.slice none 0 0) (.slice none 0 0))) 31))∧(hp E (w+1+1+1)=some (.cells (cond (l 10) (aB x.2.1) (aB Ha.zero)) 49))∧(l 5=false→aD E lo (.slice R c.cells X) c.cells)∧(l 5=false→aG E lo (.slice U c.words Y) c.words)∧(l 0=true→s 99=.agg (aF c (.slice R c.cells X) (.slice U c.words Y)))∧(l 1=true→s 100=.agg (aB h))∧(l 2=true→s 101=.agg (aB ({ h with pos:=21 })))∧(l 3=true→s 102=.agg (aB h))∧(l 4=true→s 103=.agg (aB ({ h with pos:=22 })))∧(l 5=true→s 104=.tuple #[.agg (aF x.1 (s 1003) (s 1004)),.agg (aB x.2.1),.bool x.2.2]∧aD E lo (s 1003) x.1.cells∧aG E lo (s 1004) x.1.words∧fC w (.slice R c.cells X) (s 1003)∧fC w (.slice U c.words Y) (s 1004))∧(l 6=true→s 105=.agg (aF x.1 (s 1003) (s 1004)))∧(l 7=true→s 106=.agg (aB x.2.1))∧(l 8=true→s 107=.bool x.2.2)∧(l 11=true→s 6=.bool x.2.2)) (fun s=>⟨dR zB,by simp,by simp [go_sem, *],by simp [go_sem, *],by simp [go_sem, *],by simp [go_sem, *],fun _=>by exact zO o1 o1,fun _=>by exact zO o2 o2,nB,nB,nB,nB,nB,nB,nB,nB,nB,nB⟩) ?_ ?_
  refine ⟨?_,?_,?_,?_,?_,?_,?_,?_,?_,?_,?_,?_,trivial⟩;iterate 12 (intro l s E D z A m K H;rotate_left)
  · intro l s E y m
    have I:=m.1
    have z1:=m.2.2.2.2.1
    have z2:=(jC m).2.1
    rw [y 9 rfl] at z1
    rw [y 10 rfl] at z2
    dsimp only [cond] at z1 z2
    obtain ⟨_,L,M,N,O⟩:=((jC (jD m)).2.1 (y 5 rfl))
    have ec:=((jE m).2 (y 11 rfl))
    simp only [ec]
    clear ec m y
    go_wp2
    try rw [Exit.noGoto_ret]
    exact bodyPost_ret (jZ results268 rfl (aO x.1 _ _ z1) rfl (aJ x.2.1 z2)) rfl ⟨⟨_,_,rfl,L,M,N,O⟩,I⟩
  · have zc:=m.out.2.2.1
    go_simp
    refine H.out (upd s 99 (.agg (aF c (.slice R c.cells X) (.slice U c.words Y)))) _ _ (by simp [aC] <;> rfl) (kD (kX (fun _=>rfl) id) m.out)
  · have zh:=m.out.2.2.2.1
    go_simp
    refine H.out (upd s 100 (.agg (aB h))) _ _ (by simp [aC] <;> rfl) (kD (kA (kX (fun _=>rfl) id)) m.out)
  · have e1:=((jD m.out).2.1 (z 1 rfl))
    go_simp
    go_at_call 247
    refine (dL h 21 _).mono ?_
    rintro _ wy ⟨rfl,u⟩
    refine H.out (upd s 101 (.agg (aB ({ h with pos:=21 })))) _ _ (by simp [aC,e1] <;> rfl) (kX (gU m.out.1 (dR u)) (kX (Nat.le_trans m.out.2.1 (Below.size u)) (kX (eP m.out.2.2.1 u) (kX (eP m.out.2.2.2.1 u) (kX (eP m.out.2.2.2.2.1 u) (kX (eP (jC m.out).2.1 u) (kX (fun q=>own_below ((jC m.out).2.2.1 q) u) (kX (fun q=>own_below ((jC m.out).2.2.2.1 q) u) (kB (kX (fun _=>rfl) (kB (kX (nU (A 5 rfl)) (kX (nU (A 6 rfl)) (kX (nU (A 7 rfl)) (kX (nU (A 8 rfl)) (fun _=>nU (A 11 rfl)))))))))))))))) m.out)
  · have zh:=m.out.2.2.2.1
    go_simp
    refine H.out (upd s 102 (.agg (aB h))) _ _ (by simp [aC] <;> rfl) (kD (kB (kA (kX (fun _=>rfl) id))) m.out)
  · have e3:=((jD m.out).2.2.2.1 (z 3 rfl))
    go_simp
    go_at_call 247
    refine (dL h 22 _).mono ?_
    rintro _ wy ⟨rfl,u⟩
    refine H.out (upd s 103 (.agg (aB ({ h with pos:=22 })))) _ _ (by simp [aC,e3] <;> rfl) (kX (gU m.out.1 (dR u)) (kX (Nat.le_trans m.out.2.1 (Below.size u)) (kX (eP m.out.2.2.1 u) (kX (eP m.out.2.2.2.1 u) (kX (eP m.out.2.2.2.2.1 u) (kX (eP (jC m.out).2.1 u) (kX (fun q=>own_below ((jC m.out).2.2.1 q) u) (kX (fun q=>own_below ((jC m.out).2.2.2.1 q) u) (kC (kX (fun _=>rfl) (kX (nU (A 5 rfl)) (kX (nU (A 6 rfl)) (kX (nU (A 7 rfl)) (kX (nU (A 8 rfl)) (fun _=>nU (A 11 rfl))))))))))))))) m.out)
  · have e0:=((jD m.out).1 (z 0 rfl))
    have e2:=((jD m.out).2.2.1 (z 2 rfl))
    have e4:=((jC (jD m.out)).1 (z 4 rfl))
    go_simp
    go_at_call 253
    refine (T.out _ ((jC m.out).2.2.1 D) ((jC m.out).2.2.2.1 D) (Nat.le_trans a0 m.out.1.2.2.2.1)).mono ?_
    rintro _ wy ⟨⟨y1,y2,rfl,L,M,N,O⟩,u⟩
    have I:=dR (a:=(Value.slice R c.cells X).ownBlock) (b:=(Value.slice U c.words Y).ownBlock) u
    refine H.out (upd (upd (upd s 1003 (y1)) 1004 (y2)) 104 (.tuple #[.agg (aF x.1 y1 y2),.agg (aB x.2.1),.bool x.2.2])) _ _ (by simp [aC,e0,e2,e4] <;> rfl) (kX (gU m.out.1 I) (kX (Nat.le_trans m.out.2.1 I.2.2.2.1) (kX (gW m.out.2.2.1 I ((jC m.out).2.2.1 D) ((jC m.out).2.2.2.1 D) (by decide) (by decide)) (kX (gW m.out.2.2.2.1 I ((jC m.out).2.2.1 D) ((jC m.out).2.2.2.1 D) (by decide) (by decide)) (kX (by (have Z:l 9=false:=A 9 rfl);(have F:=m.out.2.2.2.2.1);rw [Z] at F;rw [show upd l 5 true 9=false from Z];exact gW F I ((jC m.out).2.2.1 D) ((jC m.out).2.2.2.1 D) (by decide) (by decide)) (kX (by (have Z:l 10=false:=A 10 rfl);(have F:=(jC m.out).2.1);rw [Z] at F;rw [show upd l 5 true 10=false from Z];exact gW F I ((jC m.out).2.2.1 D) ((jC m.out).2.2.2.1 D) (by decide) (by decide)) (kX (fun q=>nU q (show upd l 5 true 5=true from rfl)) (kX (fun q=>nU q (show upd l 5 true 5=true from rfl)) (kC (kA (kX (fun _=>⟨rfl,L,M,fun j hj=>(N j hj).imp id (fun h=>Nat.le_trans m.out.1.2.2.2.1 h),fun j hj=>(O j hj).imp id (fun h=>Nat.le_trans m.out.1.2.2.2.1 h)⟩) (kX (nU (A 6 rfl)) (kX (nU (A 7 rfl)) (kX (nU (A 8 rfl)) (fun _=>nU (A 11 rfl))))))))))))))) m.out)
  · have G:=((jC (jD m.out)).2.1 (z 5 rfl)).1
    go_simp
    refine H.out (upd s 105 (.agg (aF x.1 (s 1003) (s 1004)))) _ _ (by simp [aC,G] <;> rfl) (kD (kC (kB (kX (fun _=>rfl) id))) m.out)
  · have G:=((jC (jD m.out)).2.1 (z 5 rfl)).1
    go_simp
    refine H.out (upd s 106 (.agg (aB x.2.1))) _ _ (by simp [aC,G] <;> rfl) (kD (kC (kB (kA (kX (fun _=>rfl) id)))) m.out)
  · have G:=((jC (jD m.out)).2.1 (z 5 rfl)).1
    go_simp
    refine H.out (upd s 107 (.bool x.2.2)) _ _ (by simp [aC,G] <;> rfl) (kE (kX (fun _=>rfl) id) m.out)
  · have e6:=((jC (jD m.out)).2.2.1 (z 6 rfl))
    have G:=((jC (jD m.out)).2.1 (z 5 rfl))
    have L:=G.2.1
    have M:=G.2.2.1
    clear G
    have J:=m.out.2.2.2.2.1
    rw [D] at J
    dsimp only [cond] at J
    obtain ⟨xa,xp,ea,_⟩:=L.seg
    obtain ⟨xb,xq,V,_⟩:=M.seg
    rw [ea,V] at e6
    have zn:hp (dF E (w+1+1) (aF x.1 (.slice xa x.1.cells xp) (.slice xb x.1.words xq))) (w+1+1)=some (.cells (aF x.1 (s 1003) (s 1004)) 31):=by rw [ea,V];exact ib J
    have I:=m.out.1
    go_simp
    refine H.out (s) _ _ (by simp [aC,e6,ea,V] <;> rfl) (kX (oX I tO) (kX (Nat.le_trans m.out.2.1 (Nat.le_of_eq aP.symm)) (kX ((aR tO).trans m.out.2.2.1) (kX ((aR tO).trans m.out.2.2.2.1) (kX (zn) (kX ((aR tO).trans (jC m.out).2.1) (kX (fun q=>nU q (show upd l 9 true 5=true from z 5 rfl)) (kX (fun q=>nU q (show upd l 9 true 5=true from z 5 rfl)) (kC (kA (kX (fun h=>(let ⟨e,L,M,N,O⟩:=(jC (jD m.out)).2.1 h;⟨e,dI L J (by decide),dI M J (by decide),N,O⟩)) id)))))))))) m.out)
  · have e7:=((jC (jD m.out)).2.2.2.1 (z 7 rfl))
    have G:=((jC (jD m.out)).2.1 (z 5 rfl))
    have L:=G.2.1
    have M:=G.2.2.1
    clear G
    have J:=(jC m.out).2.1
    rw [D] at J
    dsimp only [cond] at J
    have zn:hp (dF E (w+1+1+1) (aB x.2.1)) (w+1+1+1)=some (.cells (aB x.2.1) 49):=by exact ib J
    have I:=m.out.1
    go_simp
    refine H.out (s) _ _ (by simp [aC,e7] <;> rfl) (kX (oX I tO) (kX (Nat.le_trans m.out.2.1 (Nat.le_of_eq aP.symm)) (kX ((aR tO).trans m.out.2.2.1) (kX ((aR tO).trans m.out.2.2.2.1) (kX ((aR tO).trans m.out.2.2.2.2.1) (kX (zn) (kX (fun q=>nU q (show upd l 10 true 5=true from z 5 rfl)) (kX (fun q=>nU q (show upd l 10 true 5=true from z 5 rfl)) (kC (kA (kX (fun h=>(let ⟨e,L,M,N,O⟩:=(jC (jD m.out)).2.1 h;⟨e,dI L J (by decide),dI M J (by decide),N,O⟩)) id)))))))))) m.out)
  · have e8:=((jE m.out).1 (z 8 rfl))
    go_simp
    refine H.out (upd s 6 (.bool x.2.2)) _ _ (by simp [aC,e8] <;> rfl) (kE (kA (fun _=>fun _=>rfl)) m.out)
theorem AZ (c:Ch) (h:Ha) (v1 v2:Value) (lo:Nat) (w:World) (h1:aD w lo v1 c.cells) (h2:aG w lo v2 c.words) (a7:0≤h.grow) (a8:h.grow<c.cells.length) (G:eB h.code h.elem=true) (V:0≤h.nxt∧h.nxt≤2) (X:(h.pos == 21)=true) (hk:(h.code != 2)=false) :
    dG 268 c h v1 v2 lo w ((cB c h.grow 2,dP h,true)):=by
  have ag:(h.pos == 16)=false:=by simp at X ⊢;omega
  have ah:(h.pos == 17)=false:=by simp at X ⊢;omega
  have ai:(h.pos == 18)=false:=by simp at X ⊢;omega
  have aj:(h.pos == 19)=false:=by simp at X ⊢;omega
  have ak:(h.pos == 20)=false:=by simp at X ⊢;omega
  obtain ⟨i,N⟩:∃ i:Nat,h.grow=(i:Int):=⟨h.grow.toNat,by omega⟩
  have hi:i<c.cells.length:=by omega
  have aa:(0:Int)≤(i:Int):=by omega
  have ab:(i:Int)<(c.cells.length:Int):=by omega
  have a3:=h1.ne h2
  obtain ⟨a2,q2,rfl,_⟩:=h2.seg
  obtain ⟨g,q1,rfl,a6,y,q,a9⟩:=h1.open1 hi
  have O1:=aA h1
  have O2:=aA h2
  have z:g<w.heap.size+1:=by omega
  have A:g<w.heap.size+1+1:=by omega
  have D:g<w.heap.size+1+1+1:=by omega
  have al:g≠w.heap.size:=by omega
  have am:g≠w.heap.size+1:=by omega
  have an:g≠w.heap.size+1+1:=by omega
  have ao:g≠w.heap.size+1+1+1:=by omega
  have ac:w.heap.size≠g:=by omega
  have ad:w.heap.size+1≠g:=by omega
  have ae:w.heap.size+1+1≠g:=by omega
  have af:w.heap.size+1+1+1≠g:=by omega
  have hx:Hid (cellAt c h.grow=c.cells.getD i ⟨0,0,0⟩):=by simp [cellAt,Hid,N]
  have c0:=q 0 tO
  have c1:=q 1 tO
  have c2:=q 2 tO
  simp only [C3.val,Nat.add_zero] at c0 c1 c2
  rw [show cB c h.grow 2=cB c i 2 by rw [N]]
  have e1:=jK c i 2
  have P1:=fun W (o:aD W lo (.slice (some ⟨g,0,none⟩) c.cells q1) c.cells)=>aD.setS o hi 2
  rw [← e1] at P1
  clear hx q h1 h2 e1
  generalize c.cells.getD i ⟨0,0,0⟩=x at *
  have o1:=O1.out
  have o2:=O2.out
  obtain ⟨y0,O⟩:∃ y0,dP h=y0:=⟨_,rfl⟩
  have GR:=aA fun W=>mO h W G V
  rw [O] at GR
  rw [O]
  clear O G V
  go_enter func268,ntmps268
  go_wp2
  go_step3
  go_wp2
  go_step3
  go_wp2
  refine wp_loop_rounds 2 ?_
  rw [rounds_succ]
  have P2:=aI (p:=⟨g,i*3,none⟩) o2 (a3 g rfl) (.int .i64 2)
  go_wp2_with fail
  rw [rounds_succ]
  go_wp2_with fail
  go_region_held3 (fun w'=>hp w' w=some (.cells (aF c (.slice (some ⟨g,0,none⟩) c.cells q1) (.slice a2 c.words q2)) 31)∧hp w' (w+1)=some (.cells (aB h) 49))
    (first|(simp [*,go_sem]))
    (first|(go_at_call 271;refine (GR.out _).mono ?_;rintro _ w1 ⟨rfl,m⟩;have a5:Gr g w w1:=gT zG (rf m);have Y:=m.size;(try (simp at Y));have u:=hQ m (b:=w);(first|(simp [go_sem,T,Z,y,z,A,D] at u)|(simp [go_sem,y,z,A,D] at u));(try clear a4 a1);(try clear T);have T:=u;clear u;(try clear Z);obtain ⟨a4,a1,Z⟩:=bO T;have u:=hQ m (b:=w+1);(first|(simp [go_sem,I,L,y,z,A,D] at u)|(simp [go_sem,y,z,A,D] at u));(try clear a0 U);(try clear I);have I:=u;clear u;(try clear L);obtain ⟨a0,U,L⟩:=bO I;have u:=hQ m (b:=w+1+1);(first|(simp [go_sem,E,H,y,z,A,D] at u)|(simp [go_sem,y,z,A,D] at u));(try clear R M);(try clear E);have E:=u;clear u;(try clear H);obtain ⟨R,M,H⟩:=bO E;have u:=hQ m (b:=w+1+1+1);(first|(simp [go_sem,r,F,y,z,A,D] at u)|(simp [go_sem,y,z,A,D] at u));(try clear K J);(try clear r);have r:=u;clear u;(try clear F);obtain ⟨K,J,F⟩:=bO r;have p1:aD w1 lo (.slice (some ⟨g,0,none⟩) c.cells q1) (cB c i 2).cells:=own_below (by exact zO (P1 _ o1) o1) m;have p2:aG w1 lo (.slice a2 c.words q2) c.words:=own_below (zO P2 o2) m))
  go_wp2
  try rw [Exit.noGoto_ret]
  refine rE results268 rfl (aO (cB c i 2) (.slice (some ⟨g,0,none⟩) c.cells q1) (.slice a2 c.words q2) tZ) rfl (aJ y0 (by simp [go_sem, *] <;> first|rfl|simp [N])) ⟨⟨_,_,rfl,?_,?_,aM _ _,aM _ _⟩,mY (show w.grownBy _ (some g) from zG)⟩
  · show aD _ lo (.slice (some ⟨g,0,none⟩) c.cells q1) (cB c i 2).cells
    exact zO p1 o1
  · show aG _ lo (.slice a2 c.words q2) c.words
    exact zO p2 o2
theorem Ba (c:Ch) (h:Ha) (v1 v2:Value) (lo:Nat) (w:World) (h1:aD w lo v1 c.cells) (h2:aG w lo v2 c.words) (a6:0≤h.grow) (a7:h.grow<c.cells.length) (R:(h.pos == 22)=true) (hk:(h.code != 2)=false) :
    dG 268 c h v1 v2 lo w ((cB c h.grow 9,{ h with pos:=16 },true)):=by
  have af:(h.pos == 16)=false:=by simp at R ⊢;omega
  have ag:(h.pos == 17)=false:=by simp at R ⊢;omega
  have ah:(h.pos == 18)=false:=by simp at R ⊢;omega
  have ai:(h.pos == 19)=false:=by simp at R ⊢;omega
  have aj:(h.pos == 20)=false:=by simp at R ⊢;omega
  have ak:(h.pos == 21)=false:=by simp at R ⊢;omega
  obtain ⟨i,M⟩:∃ i:Nat,h.grow=(i:Int):=⟨h.grow.toNat,by omega⟩
  have hi:i<c.cells.length:=by omega
  have a9:(0:Int)≤(i:Int):=by omega
  have aa:(i:Int)<(c.cells.length:Int):=by omega
  have a1:=h1.ne h2
  obtain ⟨Z,q2,rfl,_⟩:=h2.seg
  obtain ⟨g,X,rfl,a5,y,q,a8⟩:=h1.open1 hi
  have O1:=aA h1
  have O2:=aA h2
  have z:g<w.heap.size+1:=by omega
  have A:g<w.heap.size+1+1:=by omega
  have D:g<w.heap.size+1+1+1:=by omega
  have al:g≠w.heap.size:=by omega
  have am:g≠w.heap.size+1:=by omega
  have an:g≠w.heap.size+1+1:=by omega
  have ao:g≠w.heap.size+1+1+1:=by omega
  have ab:w.heap.size≠g:=by omega
  have ac:w.heap.size+1≠g:=by omega
  have ad:w.heap.size+1+1≠g:=by omega
  have ae:w.heap.size+1+1+1≠g:=by omega
  have hx:Hid (cellAt c h.grow=c.cells.getD i ⟨0,0,0⟩):=by simp [cellAt,Hid,M]
  have c0:=q 0 tO
  have c1:=q 1 tO
  have c2:=q 2 tO
  simp only [C3.val,Nat.add_zero] at c0 c1 c2
  rw [show cB c h.grow 9=cB c i 9 by rw [M]]
  have e1:=jK c i 9
  have P1:=fun W (o:aD W lo (.slice (some ⟨g,0,none⟩) c.cells X) c.cells)=>aD.setS o hi 9
  rw [← e1] at P1
  clear hx q h1 h2 e1
  generalize c.cells.getD i ⟨0,0,0⟩=x at *
  have o1:=O1.out
  have o2:=O2.out
  go_enter func268,ntmps268
  go_wp2
  go_step3
  go_wp2
  go_step3
  go_wp2
  refine wp_loop_rounds 2 ?_
  rw [rounds_succ]
  have P2:=aI (p:=⟨g,i*3,none⟩) o2 (a1 g rfl) (.int .i64 9)
  go_wp2_with fail
  go_region_held3 (fun w'=>hp w' w=some (.cells (aF c (.slice (some ⟨g,0,none⟩) c.cells X) (.slice Z c.words q2)) 31)∧hp w' (w+1)=some (.cells (aB h) 49))
    (first|(simp [*,go_sem]))
    (first|(go_at_call 247;refine (dL _ _ _).mono ?_;rintro _ w1 ⟨rfl,m⟩;have a4:Gr g w w1:=gT zG (rf m);have U:=m.size;(try (simp at U));have u:=hQ m (b:=w);(first|(simp [go_sem,O,V,y,z,A,D] at u)|(simp [go_sem,y,z,A,D] at u));(try clear a3 a0);(try clear O);have O:=u;clear u;(try clear V);obtain ⟨a3,a0,V⟩:=bO O;have u:=hQ m (b:=w+1);(first|(simp [go_sem,H,K,y,z,A,D] at u)|(simp [go_sem,y,z,A,D] at u));(try clear Y T);(try clear H);have H:=u;clear u;(try clear K);obtain ⟨Y,T,K⟩:=bO H;have u:=hQ m (b:=w+1+1);(first|(simp [go_sem,E,G,y,z,A,D] at u)|(simp [go_sem,y,z,A,D] at u));(try clear N L);(try clear E);have E:=u;clear u;(try clear G);obtain ⟨N,L,G⟩:=bO E;have u:=hQ m (b:=w+1+1+1);(first|(simp [go_sem,r,F,y,z,A,D] at u)|(simp [go_sem,y,z,A,D] at u));(try clear J I);(try clear r);have r:=u;clear u;(try clear F);obtain ⟨J,I,F⟩:=bO r;have p1:aD w1 lo (.slice (some ⟨g,0,none⟩) c.cells X) (cB c i 9).cells:=own_below (by exact zO (P1 _ o1) o1) m;have p2:aG w1 lo (.slice Z c.words q2) c.words:=own_below (zO P2 o2) m))
  go_wp2
  try rw [Exit.noGoto_ret]
  refine rE results268 rfl (aO (cB c i 9) (.slice (some ⟨g,0,none⟩) c.cells X) (.slice Z c.words q2) tZ) rfl (aJ { h with pos:=16 } (by simp [go_sem, *] <;> first|rfl|simp [M])) ⟨⟨_,_,rfl,?_,?_,aM _ _,aM _ _⟩,mY (show w.grownBy _ (some g) from zG)⟩
  · show aD _ lo (.slice (some ⟨g,0,none⟩) c.cells X) (cB c i 9).cells
    exact zO p1 o1
  · show aG _ lo (.slice Z c.words q2) c.words
    exact zO p2 o2
theorem Bb (c:Ch) (h:Ha) (G H:Value) (lo:Nat) (w:World) (h1:aD w lo G c.cells) (J:aG w lo H c.words) (hk:(h.code != 2)=true) :
    dG 268 c h G H lo w (nothing):=by
  have T:=aA fun W=>gV W lo G H
  generalize nothing=x at *
  obtain ⟨K,q1,L,q2,rfl,rfl,o1,o2,M,N,m1,m2,R,Y,U,Z,V,a0,X,a3⟩:=Ep h1 J
  clear h1 J
  go_enter func268,ntmps268
  go_wp2
  go_step3
  go_wp2_with fail
  refine (T.out _).mono ?_
  rintro _ w3 ⟨⟨y1,y2,rfl,u,y,A,D⟩,m⟩
  have O:jI (Value.slice K c.cells q1).ownBlock (Value.slice L c.words q2).ownBlock w w3:=gU (dR zB) (dR m)
  have z:=m.size;(try simp at z);have I:=BL m (b:=w);(try simp [go_sem] at I);replace bX:=dW I;clear I m
  obtain ⟨⟨q,r⟩,E,F⟩:=sO (w:=w) (w+1+1+1+1) A D M N;obtain ⟨ya,yp,rfl,_⟩:=u.seg;obtain ⟨yb,yq,rfl,_⟩:=y.seg
  go_wp2
  try rw [Exit.noGoto_ret]
  refine rE results268 rfl (aO x.1 (.slice ya x.1.cells yp) (.slice yb x.1.words yq) tY) rfl (aJ x.2.1 tY) ⟨⟨_,_,rfl,?_,?_,E,F⟩,by exact zN⟩
  · exact zP u u q
  · exact zP y y r
theorem xV (c:Ch) (h:Ha) (G H:Value) (lo:Nat) (w:World) (h1:aD w lo G c.cells) (J:aG w lo H c.words) (hk:(h.code != 2)=false) (a4:(h.pos == 16)=false) (a5:(h.pos == 17)=false) (a6:(h.pos == 18)=false) (a7:(h.pos == 19)=false) (a8:(h.pos == 20)=false) (a9:(h.pos == 21)=false) (aa:(h.pos == 22)=false) (ab:(h.pos == 26)=false) :
    dG 268 c h G H lo w (nothing):=by
  have T:=aA fun W=>gV W lo G H
  generalize nothing=x at *
  obtain ⟨K,q1,L,q2,rfl,rfl,o1,o2,M,N,m1,m2,R,Y,U,Z,V,a0,X,a3⟩:=Ep h1 J
  clear h1 J
  go_enter func268,ntmps268
  go_wp2
  go_step3
  go_wp2
  go_step3
  go_wp2
  refine wp_loop_rounds 2 ?_
  rw [rounds_succ]
  go_wp2_with fail
  refine (T.out _).mono ?_
  rintro _ w3 ⟨⟨y1,y2,rfl,u,y,A,D⟩,m⟩
  have O:jI (Value.slice K c.cells q1).ownBlock (Value.slice L c.words q2).ownBlock w w3:=gU (dR zB) (dR m)
  have z:=m.size;(try simp at z);have I:=BL m (b:=w);(try simp [go_sem] at I);replace bX:=dW I;clear I m
  obtain ⟨⟨q,r⟩,E,F⟩:=sO (w:=w) (w+1+1+1+1) A D M N;obtain ⟨ya,yp,rfl,_⟩:=u.seg;obtain ⟨yb,yq,rfl,_⟩:=y.seg
  go_wp2
  try rw [Exit.noGoto_ret]
  refine rE results268 rfl (aO x.1 (.slice ya x.1.cells yp) (.slice yb x.1.words yq) tY) rfl (aJ x.2.1 tY) ⟨⟨_,_,rfl,?_,?_,E,F⟩,by exact zN⟩
  · exact zP u u q
  · exact zP y y r
end Go.Proofs.YtffhjmepfojhnaaGreat
