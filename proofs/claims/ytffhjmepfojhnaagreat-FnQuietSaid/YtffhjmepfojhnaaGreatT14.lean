/-
  The reference model's putting into a cell that is turned, on hands and channels that are kept whole; the lists are the call's own and hold at most 2 ^ 40 elements.
-/
import Derived.Test.YtffhjmepfojhnaaGreatT10
set_option maxRecDepth 100000
set_option maxHeartbeats 4000000
set_option linter.unusedSimpArgs false
set_option linter.unusedVariables false
namespace Go.Proofs.YtffhjmepfojhnaaGreat
open _root_.Go.Proofs.Tryz
open Go.RowKit
attribute [local simp] dz
attribute [local go_sem ↓] dA fU dO gW dP gY dW fE bK eO
theorem G5 (c:Ch) (h:Ha) (v1 v2:Value) (lo:Nat) (w:World) (h1:aF w lo v1 c.cells) (h2:aI w lo v2 c.words) (a9:0≤h.cell) (aa:h.cell<c.cells.length) (X:h.seen=1) (ht:bB c h.cell h.seen 2 0=true) :
    ed 201 c h v1 v2 lo w (jS c h):=by
  obtain ⟨i,V⟩:∃ i:Nat,h.cell=(i:Int):=⟨h.cell.toNat,by omega⟩;have hs:=X;rw [V,hs] at ht;have e:jS c h=done (bU c i 1 2 0) (aM 1 0):=by simp [jS,hs,V,ht]
  rw [e];have hi:i<c.cells.length:=tO;have T:=aA fun W a b=>lM c i 1 2 0 v1 v2 lo W a b hi
  have D:=aA fun W=>bV (bU c i 1 2 0) (aM 1 0) v1 v2 lo W
  generalize done (bU c i 1 2 0) (aM 1 0)=x at *;rw [ht] at T;have b1:=nC h1;have b2:=nC h2;have m1:=sH b1;have ab:=m1 w tO;have ac:=m1 (w+1) tO;have ad:=m1 (w+1+1) tO;have ae:=m1 (w+1+1+1) tO;have o1:=h1;have o2:=h2;obtain ⟨a1,q1,e1,_⟩:=h1.seg;obtain ⟨a2,q2,e2,_⟩:=h2.seg;subst e1 e2;clear h1 h2 e X;go_enter func201,ntmps201;go_wp2_with fail;refine (T.out _ (zO o1 o1) (zO o2 o2)).mono ?_;rintro _ w1 ⟨rfl,p1,p2,H⟩;have Y:=H.size;(try (simp at Y));have I:=Vv H (b:=w);(try simp [go_sem] at I);replace bX:=fP I;clear I;have R:=NT (w:=w) zB H;clear H
  have a7:ni (Value.slice a1 c.cells q1).ownBlock (Value.slice a2 c.words q2).ownBlock w w1:=rA R;obtain ⟨k0,k1,k2,k3⟩:=pz (a:=w) (b:=w1);go_wp2_with fail
  go_region_with (first|((go_at_call 130;refine aK w1 zB fun O=>?_;refine (iy _ _ _).mono ?_;rintro _ w2 ⟨rfl,F⟩;have Z:=F.size;(try simp at Z);have I:=And.intro (hQ F (b:=w1)) <| And.intro (hQ F (b:=w+1+1+1)) <| And.intro (hQ F (b:=w+1+1)) <| And.intro (hQ F (b:=w+1)) <| hQ F (b:=w);(first|simp [go_sem,bX,k0,k1,k2,k3] at I|simp [go_sem] at I|skip);replace bX:=ng I;clear I;have J:=bT O F;clear F O);have r1:aF w2 lo (.slice a1 c.cells q1) (bU c i 1 2 0).cells:=own_below p1 J;have r2:aI w2 lo (.slice a2 c.words q2) (bU c i 1 2 0).words:=own_below p2 J)|((go_at_call 198;refine aK w2 zB fun O=>?_;refine (D.out _ (zO r1 r1) (zO r2 r2)).mono ?_;rintro _ w3 ⟨⟨y1,y2,rfl,M,N,a3,a4⟩,G⟩;have a0:=G.size;(try simp at a0);have I:=NS G (b:=w);(first|simp [go_sem,bX,k0,k1,k2,k3] at I|simp [go_sem] at I|skip);replace bX:=fP I;clear I;have U:=bT O G;clear G O);have a8:=kv a7 (kv (gy J) (gy U));obtain ⟨⟨K,L⟩,a5,a6⟩:=sO (w:=w) (w+1+1+1+1) a3 a4 b1 b2;obtain ⟨ya,yp,rfl,_⟩:=M.seg;obtain ⟨yb,yq,rfl,_⟩:=N.seg))
  all_goals go_wp2
  all_goals (refine rE results201 rfl (bN x.1 (.slice ya x.1.cells yp) (.slice yb x.1.words yq) tY) rfl (aQ x.2.1 tY) ⟨⟨_,_,rfl,?_,?_,a5,a6⟩,zN⟩)
  all_goals (first|exact zP M M K|skip)
  all_goals (first|exact zP N N L|skip)
theorem xu (c:Ch) (h:Ha) (v1 v2:Value) (lo:Nat) (w:World) (h1:aF w lo v1 c.cells) (h2:aI w lo v2 c.words) (aa:0≤h.cell) (ab:h.cell<c.cells.length) (X:h.seen=0) :
    (∀ (hx:h.cell<h.come) (ht:bB c h.cell h.seen 2 0=true),Calls prog 201 #[.agg (aH c v1 v2),.agg (aB h)] w fun r w'=>eB w w' lo v1 v2 (jS c h) r) ∧
    (∀ (hx:h.come≤h.cell) (hy:h.cell<h.fin) (ht:bB c h.cell h.seen 2 0=true),Calls prog 201 #[.agg (aH c v1 v2),.agg (aB h)] w fun r w'=>eB w w' lo v1 v2 (jS c h) r):=by
  constructor
  case' left =>
    intro hx ht;have mA:Hid (0=0):=rfl
  case' right =>
    intro hx hy ht;have mB:Hid (0=0):=rfl
  all_goals
    obtain ⟨i,K⟩:∃ i:Nat,h.cell=(i:Int):=⟨h.cell.toNat,by omega⟩;have hs:=X;rw [K,hs] at ht
    first
    | (replace mA:=mA;have e:jS c h=done (bU c i 0 2 0) (aM 1 0):=by simp [jS,hs,K,ht,show ¬ h.come≤i by omega])
    | (replace mB:=mB;have e:jS c h=done (bU c i 0 2 0) (aM 1 0):=by simp [jS,hs,K,ht,show ¬ h.fin≤i by omega])
    rw [e];have hi:i<c.cells.length:=tO;have T:=aA fun W a b=>lM c i 0 2 0 v1 v2 lo W a b hi
    have D:=aA fun W=>bV (bU c i 0 2 0) (aM 1 0) v1 v2 lo W
    generalize done (bU c i 0 2 0) (aM 1 0)=x at *;rw [ht] at T;have b1:=nC h1;have b2:=nC h2;have m1:=sH b1;have ad:=m1 w tO;have ae:=m1 (w+1) tO;have af:=m1 (w+1+1) tO;have ag:=m1 (w+1+1+1) tO;have o1:=h1;have o2:=h2;obtain ⟨a1,q1,e1,_⟩:=h1.seg;obtain ⟨a2,q2,e2,_⟩:=h2.seg;subst e1 e2;clear h1 h2 e X
    first
    | (replace mA:=mA
       have a8:¬ h.come≤(i:Int):=tO
       clear hx)
    | (replace mB:=mB
       have a8:h.come≤(i:Int):=tO;have ac:¬ h.fin≤(i:Int):=tO
       clear hx hy)
    go_enter func201,ntmps201
    go_wp2_with fail;refine (T.out _ (zO o1 o1) (zO o2 o2)).mono ?_;rintro _ w1 ⟨rfl,p1,p2,H⟩;have Y:=H.size;(try (simp at Y));have I:=Vv H (b:=w);(try simp [go_sem] at I);replace bX:=fP I;clear I;have U:=NT (w:=w) zB H;clear H
    have a7:ni (Value.slice a1 c.cells q1).ownBlock (Value.slice a2 c.words q2).ownBlock w w1:=rA U;obtain ⟨k0,k1,k2,k3⟩:=pz (a:=w) (b:=w1);go_wp2_with fail
    go_region_with (first|((go_at_call 130;refine aK w1 zB fun R=>?_;refine (iy _ _ _).mono ?_;rintro _ w2 ⟨rfl,F⟩;have Z:=F.size;(try simp at Z);have I:=And.intro (hQ F (b:=w1)) <| And.intro (hQ F (b:=w+1+1+1)) <| And.intro (hQ F (b:=w+1+1)) <| And.intro (hQ F (b:=w+1)) <| hQ F (b:=w);(first|simp [go_sem,bX,k0,k1,k2,k3] at I|simp [go_sem] at I|skip);replace bX:=ng I;clear I;have J:=bT R F;clear F R);have r1:aF w2 lo (.slice a1 c.cells q1) (bU c i 0 2 0).cells:=own_below p1 J;have r2:aI w2 lo (.slice a2 c.words q2) (bU c i 0 2 0).words:=own_below p2 J)|((go_at_call 198;refine aK w2 zB fun R=>?_;refine (D.out _ (zO r1 r1) (zO r2 r2)).mono ?_;rintro _ w3 ⟨⟨y1,y2,rfl,N,O,a3,a4⟩,G⟩;have a0:=G.size;(try simp at a0);have I:=NS G (b:=w);(first|simp [go_sem,bX,k0,k1,k2,k3] at I|simp [go_sem] at I|skip);replace bX:=fP I;clear I;have V:=bT R G;clear G R);have a9:=kv a7 (kv (gy J) (gy V));obtain ⟨⟨L,M⟩,a5,a6⟩:=sO (w:=w) (w+1+1+1+1) a3 a4 b1 b2;obtain ⟨ya,yp,rfl,_⟩:=N.seg;obtain ⟨yb,yq,rfl,_⟩:=O.seg))
    all_goals go_wp2
    all_goals (refine rE results201 rfl (bN x.1 (.slice ya x.1.cells yp) (.slice yb x.1.words yq) tY) rfl (aQ x.2.1 tY) ⟨⟨_,_,rfl,?_,?_,a5,a6⟩,zN⟩)
    all_goals (first|exact zP N N L|skip)
    all_goals (first|exact zP O O M|skip)
theorem G6 (c:Ch) (h:Ha) (v1 v2:Value) (lo:Nat) (w:World) (h1:aF w lo v1 c.cells) (h2:aI w lo v2 c.words) (F:0≤h.cell) (G:h.cell<c.cells.length) (H:h.seen=0) (I:h.cell<h.come) (ht:bB c h.cell h.seen 2 0=true) :
    Calls prog 201 #[.agg (aH c v1 v2),.agg (aB h)] w fun r w'=>eB w w' lo v1 v2 (jS c h) r:=(xu c h v1 v2 lo w h1 h2 F G H).1 I ht
theorem G7 (c:Ch) (h:Ha) (v1 v2:Value) (lo:Nat) (w:World) (h1:aF w lo v1 c.cells) (h2:aI w lo v2 c.words) (F:0≤h.cell) (G:h.cell<c.cells.length) (H:h.seen=0) (I:h.come≤h.cell) (J:h.cell<h.fin) (ht:bB c h.cell h.seen 2 0=true) :
    Calls prog 201 #[.agg (aH c v1 v2),.agg (aB h)] w fun r w'=>eB w w' lo v1 v2 (jS c h) r:=(xu c h v1 v2 lo w h1 h2 F G H).2 I J ht
end Go.Proofs.YtffhjmepfojhnaaGreat
