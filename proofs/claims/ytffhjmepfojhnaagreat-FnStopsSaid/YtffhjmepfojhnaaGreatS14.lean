/-
  The reference model's putting into a cell that is turned, on hands and channels that are kept whole; the lists are the call's own and hold at most 2 ^ 40 elements.
-/
import Derived.Test.YtffhjmepfojhnaaGreatS10
set_option maxRecDepth 100000
set_option maxHeartbeats 4000000
set_option linter.unusedSimpArgs false
set_option linter.unusedVariables false
namespace Go.Proofs.YtffhjmepfojhnaaGreat
open _root_.Go.Proofs.Tryz
open Go.RowKit
attribute [local simp] aP
attribute [local go_sem ↓] aQ bF aY bY aZ bZ aX bB aN aU
theorem CW (c:Ch) (h:Ha) (V X:Value) (lo:Nat) (w:World) (h1:aD w lo V c.cells) (R:aG w lo X c.words) (a7:0≤h.cell) (a8:h.cell<c.cells.length) (K:h.seen=1) (ht:bQ c h.cell h.seen 2 0=true) :
    dG 201 c h V X lo w (jQ c h):=by
  obtain ⟨i,J⟩:∃ i:Nat,h.cell=(i:Int):=⟨h.cell.toNat,by omega⟩
  have hs:=K
  rw [J,hs] at ht
  have e:jQ c h=done (bK c i 1 2 0) (aV 1 0):=by simp [jQ,hs,J,ht]
  rw [e]
  have hi:i<c.cells.length:=by omega
  have T:=aA fun W a b=>ko c i 1 2 0 V X lo W a b hi
  have D:=aA fun W=>bU (bK c i 1 2 0) (aV 1 0) V X lo W
  generalize done (bK c i 1 2 0) (aV 1 0)=x at *
  rw [ht] at T
  have b1:=kY h1
  have b2:=kY R
  have U:=nO b1
  have a9:=U w tO
  have aa:=U (w+1) tO
  have ab:=U (w+1+1) tO
  have ac:=U (w+1+1+1) tO
  have o1:=h1
  have o2:=R
  obtain ⟨a1,q1,e1,_⟩:=h1.seg
  obtain ⟨a2,q2,e2,_⟩:=R.seg
  subst e1 e2
  clear h1 R e K
  go_enter func201,ntmps201
  go_wp2_with fail;refine (T.out _ (zO o1 o1) (zO o2 o2)).mono ?_;rintro _ Y ⟨rfl,p1,p2,r⟩;have L:=r.size;(try (simp at L));have u:=PM r (b:=w);(try simp [go_sem] at u);replace O:=dW u;clear u;have H:=I6 (w:=w) zB r;clear r
  have a5:jI (Value.slice a1 c.cells q1).ownBlock (Value.slice a2 c.words q2).ownBlock w Y:=mY H
  obtain ⟨k0,k1,k2,k3⟩:=mF (a:=w) (b:=Y)
  go_wp2_with fail
  go_region_with (first|((go_at_call 130;refine aK Y zB fun G=>?_;refine (gZ _ _ _).mono ?_;rintro _ w2 ⟨rfl,m⟩;have M:=m.size;(try simp at M);have u:=And.intro (hQ m (b:=Y)) <| And.intro (hQ m (b:=w+1+1+1)) <| And.intro (hQ m (b:=w+1+1)) <| And.intro (hQ m (b:=w+1)) <| hQ m (b:=w);(first|simp [go_sem,O,k0,k1,k2,k3] at u|simp [go_sem] at u|skip);replace O:=ll u;clear u;have y:=bT G m;clear m G);have r1:aD w2 lo (.slice a1 c.cells q1) (bK c i 1 2 0).cells:=own_below p1 y;have r2:aG w2 lo (.slice a2 c.words q2) (bK c i 1 2 0).words:=own_below p2 y)|((go_at_call 198;refine aK w2 zB fun G=>?_;refine (D.out _ (zO r1 r1) (zO r2 r2)).mono ?_;rintro _ w3 ⟨⟨y1,y2,rfl,E,F,Z,a0⟩,q⟩;have N:=q.size;(try simp at N);have u:=BL q (b:=w);(first|simp [go_sem,O,k0,k1,k2,k3] at u|simp [go_sem] at u|skip);replace O:=dW u;clear u;have I:=bT G q;clear q G);have a6:=gU a5 (gU (dR y) (dR I));obtain ⟨⟨z,A⟩,a3,a4⟩:=sO (w:=w) (w+1+1+1+1) Z a0 b1 b2;obtain ⟨ya,yp,rfl,_⟩:=E.seg;obtain ⟨yb,yq,rfl,_⟩:=F.seg))
  all_goals go_wp2
  all_goals (refine rE results201 rfl (aO x.1 (.slice ya x.1.cells yp) (.slice yb x.1.words yq) tY) rfl (aJ x.2.1 tY) ⟨⟨_,_,rfl,?_,?_,a3,a4⟩,by exact zN⟩)
  all_goals (first|exact zP E E z|skip)
  all_goals (first|exact zP F F A|skip)
theorem si (c:Ch) (h:Ha) (J K:Value) (lo:Nat) (w:World) (h1:aD w lo J c.cells) (Z:aG w lo K c.words) (a9:0≤h.cell) (aa:h.cell<c.cells.length) (O:h.seen=0) :
    (∀ (X:h.cell<h.come) (G:bQ c h.cell h.seen 2 0=true),Calls prog 201 #[.agg (aF c J K),.agg (aB h)] w fun r w'=>dJ w w' lo J K (jQ c h) r) ∧
    (∀ (X:h.come≤h.cell) (hy:h.cell<h.fin) (G:bQ c h.cell h.seen 2 0=true),Calls prog 201 #[.agg (aF c J K),.agg (aB h)] w fun r w'=>dJ w w' lo J K (jQ c h) r):=by
  constructor
  case' left =>
    intro X G
    have mA:Hid (0=0):=rfl
  case' right =>
    intro X hy G
    have mB:Hid (0=0):=rfl
  all_goals
    obtain ⟨i,A⟩:∃ i:Nat,h.cell=(i:Int):=⟨h.cell.toNat,by omega⟩
    have hs:=O
    rw [A,hs] at G
    first
    | (replace mA:=mA;have e:jQ c h=done (bK c i 0 2 0) (aV 1 0):=by simp [jQ,hs,A,G,show ¬ h.come≤i by omega])
    | (replace mB:=mB;have e:jQ c h=done (bK c i 0 2 0) (aV 1 0):=by simp [jQ,hs,A,G,show ¬ h.fin≤i by omega])
    rw [e]
    have hi:i<c.cells.length:=by omega
    have T:=aA fun W a b=>ko c i 0 2 0 J K lo W a b hi
    have D:=aA fun W=>bU (bK c i 0 2 0) (aV 1 0) J K lo W
    generalize done (bK c i 0 2 0) (aV 1 0)=x at *
    rw [G] at T
    have b1:=kY h1
    have b2:=kY Z
    have m1:=nO b1
    have ac:=m1 w tO
    have ad:=m1 (w+1) tO
    have ae:=m1 (w+1+1) tO
    have af:=m1 (w+1+1+1) tO
    have o1:=h1
    have o2:=Z
    obtain ⟨a1,q1,e1,_⟩:=h1.seg
    obtain ⟨a2,q2,e2,_⟩:=Z.seg
    subst e1 e2
    clear h1 Z e O
    first
    | (replace mA:=mA
       have a7:¬ h.come≤(i:Int):=by omega
       clear X)
    | (replace mB:=mB
       have a7:h.come≤(i:Int):=by omega
       have ab:¬ h.fin≤(i:Int):=by omega
       clear X hy)
    go_enter func201,ntmps201
    go_wp2_with fail;refine (T.out _ (zO o1 o1) (zO o2 o2)).mono ?_;rintro _ w1 ⟨rfl,p1,p2,u⟩;have R:=u.size;(try (simp at R));have y:=PM u (b:=w);(try simp [go_sem] at y);replace Y:=dW y;clear y;have M:=I6 (w:=w) zB u;clear u
    have a6:jI (Value.slice a1 c.cells q1).ownBlock (Value.slice a2 c.words q2).ownBlock w w1:=mY M
    obtain ⟨k0,k1,k2,k3⟩:=mF (a:=w) (b:=w1)
    go_wp2_with fail
    go_region_with (first|((go_at_call 130;refine aK w1 zB fun L=>?_;refine (gZ _ _ _).mono ?_;rintro _ w2 ⟨rfl,m⟩;have U:=m.size;(try simp at U);have y:=And.intro (hQ m (b:=w1)) <| And.intro (hQ m (b:=w+1+1+1)) <| And.intro (hQ m (b:=w+1+1)) <| And.intro (hQ m (b:=w+1)) <| hQ m (b:=w);(first|simp [go_sem,Y,k0,k1,k2,k3] at y|simp [go_sem] at y|skip);replace Y:=ll y;clear y;have z:=bT L m;clear m L);have r1:aD w2 lo (.slice a1 c.cells q1) (bK c i 0 2 0).cells:=own_below p1 z;have r2:aG w2 lo (.slice a2 c.words q2) (bK c i 0 2 0).words:=own_below p2 z)|((go_at_call 198;refine aK w2 zB fun L=>?_;refine (D.out _ (zO r1 r1) (zO r2 r2)).mono ?_;rintro _ w3 ⟨⟨y1,y2,rfl,H,I,a0,a3⟩,q⟩;have V:=q.size;(try simp at V);have y:=BL q (b:=w);(first|simp [go_sem,Y,k0,k1,k2,k3] at y|simp [go_sem] at y|skip);replace Y:=dW y;clear y;have N:=bT L q;clear q L);have a8:=gU a6 (gU (dR z) (dR N));obtain ⟨⟨E,F⟩,a4,a5⟩:=sO (w:=w) (w+1+1+1+1) a0 a3 b1 b2;obtain ⟨ya,yp,rfl,_⟩:=H.seg;obtain ⟨yb,yq,rfl,_⟩:=I.seg))
    all_goals go_wp2
    all_goals (refine rE results201 rfl (aO x.1 (.slice ya x.1.cells yp) (.slice yb x.1.words yq) tY) rfl (aJ x.2.1 tY) ⟨⟨_,_,rfl,?_,?_,a4,a5⟩,by exact zN⟩)
    all_goals (first|exact zP H H E|skip)
    all_goals (first|exact zP I I F|skip)
theorem CX (c:Ch) (h:Ha) (m q:Value) (lo:Nat) (w:World) (h1:aD w lo m c.cells) (A:aG w lo q c.words) (u:0≤h.cell) (y:h.cell<c.cells.length) (z:h.seen=0) (E:h.cell<h.come) (D:bQ c h.cell h.seen 2 0=true) :
    Calls prog 201 #[.agg (aF c m q),.agg (aB h)] w fun r w'=>dJ w w' lo m q (jQ c h) r:=(si c h m q lo w h1 A u y z).1 E D
theorem CY (c:Ch) (h:Ha) (m q:Value) (lo:Nat) (w:World) (h1:aD w lo m c.cells) (A:aG w lo q c.words) (u:0≤h.cell) (y:h.cell<c.cells.length) (z:h.seen=0) (E:h.come≤h.cell) (F:h.cell<h.fin) (D:bQ c h.cell h.seen 2 0=true) :
    Calls prog 201 #[.agg (aF c m q),.agg (aB h)] w fun r w'=>dJ w w' lo m q (jQ c h) r:=(si c h m q lo w h1 A u y z).2 E F D
end Go.Proofs.YtffhjmepfojhnaaGreat
