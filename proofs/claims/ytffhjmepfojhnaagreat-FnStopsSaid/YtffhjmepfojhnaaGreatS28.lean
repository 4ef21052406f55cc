/-
  Pulling a cell in chapter 8 of the reference model, on hands and channels that are kept whole; lists lie in memory and hold at most 2 ^ 40 elements.
-/
import Derived.Test.YtffhjmepfojhnaaGreatS15
import Derived.Test.YtffhjmepfojhnaaGreatS18
import Derived.Test.YtffhjmepfojhnaaGreatS04
import Derived.Test.YtffhjmepfojhnaaGreatS03
import Derived.Deep.RegionHeld3
import Derived.Deep.DeepCutAuto
import Derived.Test.YtffhjmepfojhnaaGreatS01
set_option maxRecDepth 100000
set_option maxHeartbeats 4000000
set_option linter.unusedSimpArgs false
set_option linter.unusedVariables false
namespace Go.Proofs.YtffhjmepfojhnaaGreat
open _root_.Go.Proofs.Tryz
section
open Go.RowKit
attribute [local simp] aP
attribute [local go_sem ↓] aQ bF aY bY aZ bZ aX bB aN aU
theorem wN (c:Ch) (h:Ha) (v1 v2:Value) (lo:Nat) (w:World) (h1:aD w lo v1 c.cells) (h2:aG w lo v2 c.words) (al:0≤h.grow) (am:h.grow<c.cells.length) (hs:(h.seen == 3)=true) (a0:(h.seen == 0)=false) :
    (∀ (ht:bQ c h.grow h.seen 6 h.wait=true),Calls prog 211 #[.agg (aF c v1 v2),.agg (aB h)] w fun r w'=>dJ w w' lo v1 v2 (iH c h) r) ∧
    (∀ (ht:bQ c h.grow h.seen 6 h.wait=false),Calls prog 211 #[.agg (aF c v1 v2),.agg (aB h)] w fun r w'=>dJ w w' lo v1 v2 (iH c h) r):=by
  constructor
  case' left =>
    intro ht
    have mA:Hid (0=0):=rfl
  case' right =>
    intro ht
    have mB:Hid (0=0):=rfl
  all_goals
    obtain ⟨i,Z⟩:∃ i:Nat,h.grow=(i:Int):=⟨h.grow.toNat,by omega⟩
    have hi:i<c.cells.length:=by omega
    first
    | (replace mA:=mA
       have R:bQ c i h.seen 6 h.wait=true:=by rw [← ht,Z]
       have e:iH c h=done (bK c i h.seen 6 h.wait) ({ h with pos:=20,grow:=(i:Int) }):=by simp at hs a0;simp [iH,lH,hs,a0,Z] at R ⊢;simp [R])
    | (replace mB:=mB
       have R:bQ c i h.seen 6 h.wait=false:=by rw [← ht,Z]
       have e:iH c h=done (bK c i h.seen 6 h.wait) ({ h with pos:=18,grow:=(i:Int) }):=by simp at hs a0;simp [iH,lH,hs,a0,Z] at R ⊢;simp [R])
    rw [e]
    have T:=aA fun W a b=>ko c i h.seen 6 h.wait v1 v2 lo W a b hi
    first
    | (replace mA:=mA
       have D:=aA fun W=>bU (bK c i h.seen 6 h.wait) ({ h with pos:=20,grow:=(i:Int) }) v1 v2 lo W
       generalize done (bK c i h.seen 6 h.wait) ({ h with pos:=20,grow:=(i:Int) })=x at *)
    | (replace mB:=mB
       have D:=aA fun W=>bU (bK c i h.seen 6 h.wait) ({ h with pos:=18,grow:=(i:Int) }) v1 v2 lo W
       generalize done (bK c i h.seen 6 h.wait) ({ h with pos:=18,grow:=(i:Int) })=x at *)
    rw [R] at T
    have b1:=kY h1
    have b2:=kY h2
    have m1:=nO b1
    have m2:=nO b2
    have an:=m1 (w.heap.size) tO
    have au:=m2 (w.heap.size) tO
    have ao:=m1 (w+1) tO
    have av:=m2 (w+1) tO
    have ap:=m1 (w+1+1) tO
    have aw:=m2 (w+1+1) tO
    have aq:=m1 (w+1+1+1) tO
    have ax:=m2 (w+1+1+1) tO
    have o1:=h1
    have o2:=h2
    obtain ⟨a1,q1,e1,_⟩:=h1.seg
    obtain ⟨a2,q2,e2,_⟩:=h2.seg
    subst e1 e2
    clear h1 h2 e ht
    go_enter func211,ntmps211
    go_wp2_with fail;refine aK w zB fun bb=>?_;refine (jW _ _).mono ?_;rintro _ w4 ⟨rfl,O⟩;have a3:Below w w w4:=bT bb O;have ad:=O.size;(try simp at ad);have Y:=q4 O (b:=w);(try simp [go_sem] at Y);(try clear m E A u);(try clear q I G z);(try clear y L K H);(try clear J X U M);obtain ⟨m,q,y,J⟩:=Y;obtain ⟨E,A,u⟩:=bO m;obtain ⟨I,G,z⟩:=bO q;obtain ⟨L,K,H⟩:=bO y;obtain ⟨X,U,M⟩:=bO J;clear O bb
    have o3:=own_below o1 a3
    have o4:=own_below o2 a3
    have ar:=m1 w4 tO
    have ay:=m2 w4 tO
    have V:w4<w4.heap.size+1:=by omega
    obtain ⟨k0,k1,k2,k3⟩:=mF (a:=w) (b:=w4)
    go_wp2_with fail;refine (T.out _ (zO o3 o1) (zO o4 o2)).mono ?_;rintro _ w1 ⟨rfl,p1,p2,F⟩;have ab:=F.size;(try (simp at ab));have Y:=And.intro (bE F (b:=w4) tS (by assumption)) <| And.intro (bE F (b:=w+1+1+1) tS (by assumption)) <| And.intro (bE F (b:=w+1+1) tS (by assumption)) <| And.intro (bE F (b:=w+1) tS (by assumption)) <| bE F (b:=w) tS (by assumption);(first|simp [go_sem,m,q,y,J,M,V,H,z,u,k0,k1,k2,k3] at Y|simp [go_sem] at Y|skip);(try clear a4 ae a9 V);(try clear m E A u);(try clear q I G z);(try clear y L K H);(try clear J X U M);obtain ⟨a4,m,q,y,J⟩:=Y;obtain ⟨ae,a9,V⟩:=bO a4;obtain ⟨E,A,u⟩:=bO m;obtain ⟨I,G,z⟩:=bO q;obtain ⟨L,K,H⟩:=bO y;obtain ⟨X,U,M⟩:=bO J;have aa:=I6 (w:=w) zB F;clear F
    have aj:jI (Value.slice a1 c.cells q1).ownBlock (Value.slice a2 c.words q2).ownBlock w w1:=mY aa
    clear k0 k1 k2 k3
    obtain ⟨k0,k1,k2,k3⟩:=mF (a:=w) (b:=w1)
    have k4:w4<w1.heap.size:=by omega
    have r1:aD w1 lo (.slice a1 c.cells q1) (bK c i h.seen 6 h.wait).cells:=p1
    have r2:aG w1 lo (.slice a2 c.words q2) (bK c i h.seen 6 h.wait).words:=p2
    go_wp2_with fail
    refine (D.out _ (zO r1 o1) (zO r2 o2)).mono ?_
    rintro _ w3 ⟨⟨y1,y2,rfl,a7,a8,af,ag⟩,N⟩
    have ak:jI (Value.slice a1 c.cells q1).ownBlock (Value.slice a2 c.words q2).ownBlock w w3:=gU zN (dR N)
    have ac:=N.size;(try simp at ac);have Y:=q4 N (b:=w);(first|simp [go_sem,m,q,y,J,M,H,z,u,k0,k1,k2,k3,k4] at Y|simp [go_sem] at Y|skip);(try clear m E A u);(try clear q I G z);(try clear y L K H);(try clear J X U M);obtain ⟨m,q,y,J⟩:=Y;obtain ⟨E,A,u⟩:=bO m;obtain ⟨I,G,z⟩:=bO q;obtain ⟨L,K,H⟩:=bO y;obtain ⟨X,U,M⟩:=bO J;clear N
    obtain ⟨⟨a5,a6⟩,ah,ai⟩:=sO (w:=w) (w+1+1+1+1) af ag b1 b2;obtain ⟨ya,yp,rfl,_⟩:=a7.seg;obtain ⟨yb,yq,rfl,_⟩:=a8.seg
    go_wp2
    refine rE results211 rfl (aO x.1 (.slice ya x.1.cells yp) (.slice yb x.1.words yq) tY) rfl (aJ x.2.1 tY) ⟨⟨_,_,rfl,?_,?_,ah,ai⟩,by exact zN⟩
    · exact zP a7 a7 a5
    · exact zP a8 a8 a6
theorem JM (c:Ch) (h:Ha) (m q:Value) (lo:Nat) (w:World) (h1:aD w lo m c.cells) (A:aG w lo q c.words) (u:0≤h.grow) (y:h.grow<c.cells.length) (hs:(h.seen == 3)=true) (z:(h.seen == 0)=false) (D:bQ c h.grow h.seen 6 h.wait=true) :
    Calls prog 211 #[.agg (aF c m q),.agg (aB h)] w fun r w'=>dJ w w' lo m q (iH c h) r:=(wN c h m q lo w h1 A u y hs z).1 D
theorem JN (c:Ch) (h:Ha) (m q:Value) (lo:Nat) (w:World) (h1:aD w lo m c.cells) (A:aG w lo q c.words) (u:0≤h.grow) (y:h.grow<c.cells.length) (hs:(h.seen == 3)=true) (z:(h.seen == 0)=false) (D:bQ c h.grow h.seen 6 h.wait=false) :
    Calls prog 211 #[.agg (aF c m q),.agg (aB h)] w fun r w'=>dJ w w' lo m q (iH c h) r:=(wN c h m q lo w h1 A u y hs z).2 D
theorem wO (c:Ch) (h:Ha) (v1 v2:Value) (lo:Nat) (w:World) (h1:aD w lo v1 c.cells) (h2:aG w lo v2 c.words) (al:0≤h.grow) (am:h.grow<c.cells.length) (hs:(h.seen == 3)=false) (a0:(h.seen == 0)=true) :
    (∀ (ht:bQ c h.grow h.seen 1 0=true),Calls prog 211 #[.agg (aF c v1 v2),.agg (aB h)] w fun r w'=>dJ w w' lo v1 v2 (iH c h) r) ∧
    (∀ (ht:bQ c h.grow h.seen 1 0=false),Calls prog 211 #[.agg (aF c v1 v2),.agg (aB h)] w fun r w'=>dJ w w' lo v1 v2 (iH c h) r):=by
  constructor
  case' left =>
    intro ht
    have mA:Hid (0=0):=rfl
  case' right =>
    intro ht
    have mB:Hid (0=0):=rfl
  all_goals
    obtain ⟨i,Z⟩:∃ i:Nat,h.grow=(i:Int):=⟨h.grow.toNat,by omega⟩
    have hi:i<c.cells.length:=by omega
    first
    | (replace mA:=mA
       have R:bQ c i h.seen 1 0=true:=by rw [← ht,Z]
       have e:iH c h=done (bK c i h.seen 1 0) (dP h):=by simp at hs a0;simp [iH,lH,hs,a0,Z] at R ⊢;simp [R])
    | (replace mB:=mB
       have R:bQ c i h.seen 1 0=false:=by rw [← ht,Z]
       have e:iH c h=done (bK c i h.seen 1 0) ({ h with pos:=18,grow:=(i:Int) }):=by simp at hs a0;simp [iH,lH,hs,a0,Z] at R ⊢;simp [R])
    rw [e]
    have T:=aA fun W a b=>ko c i h.seen 1 0 v1 v2 lo W a b hi
    first
    | (replace mA:=mA
       have D:=aA fun W=>bU (bK c i h.seen 1 0) (dP h) v1 v2 lo W
       generalize done (bK c i h.seen 1 0) (dP h)=x at *)
    | (replace mB:=mB
       have D:=aA fun W=>bU (bK c i h.seen 1 0) ({ h with pos:=18,grow:=(i:Int) }) v1 v2 lo W
       generalize done (bK c i h.seen 1 0) ({ h with pos:=18,grow:=(i:Int) })=x at *)
    rw [R] at T
    have b1:=kY h1
    have b2:=kY h2
    have m1:=nO b1
    have m2:=nO b2
    have an:=m1 (w.heap.size) tO
    have au:=m2 (w.heap.size) tO
    have ao:=m1 (w+1) tO
    have av:=m2 (w+1) tO
    have ap:=m1 (w+1+1) tO
    have aw:=m2 (w+1+1) tO
    have aq:=m1 (w+1+1+1) tO
    have ax:=m2 (w+1+1+1) tO
    have o1:=h1
    have o2:=h2
    obtain ⟨a1,q1,e1,_⟩:=h1.seg
    obtain ⟨a2,q2,e2,_⟩:=h2.seg
    subst e1 e2
    clear h1 h2 e ht
    go_enter func211,ntmps211
    go_wp2_with fail;refine aK w zB fun bb=>?_;refine (jW _ _).mono ?_;rintro _ w4 ⟨rfl,O⟩;have a3:Below w w w4:=bT bb O;have ad:=O.size;(try simp at ad);have Y:=q4 O (b:=w);(try simp [go_sem] at Y);(try clear m E A u);(try clear q I G z);(try clear y L K H);(try clear J X U M);obtain ⟨m,q,y,J⟩:=Y;obtain ⟨E,A,u⟩:=bO m;obtain ⟨I,G,z⟩:=bO q;obtain ⟨L,K,H⟩:=bO y;obtain ⟨X,U,M⟩:=bO J;clear O bb
    have o3:=own_below o1 a3
    have o4:=own_below o2 a3
    have ar:=m1 w4 tO
    have ay:=m2 w4 tO
    have V:w4<w4.heap.size+1:=by omega
    obtain ⟨k0,k1,k2,k3⟩:=mF (a:=w) (b:=w4)
    go_wp2_with fail;refine (T.out _ (zO o3 o1) (zO o4 o2)).mono ?_;rintro _ w1 ⟨rfl,p1,p2,F⟩;have ab:=F.size;(try (simp at ab));have Y:=And.intro (bE F (b:=w4) tS (by assumption)) <| And.intro (bE F (b:=w+1+1+1) tS (by assumption)) <| And.intro (bE F (b:=w+1+1) tS (by assumption)) <| And.intro (bE F (b:=w+1) tS (by assumption)) <| bE F (b:=w) tS (by assumption);(first|simp [go_sem,m,q,y,J,M,V,H,z,u,k0,k1,k2,k3] at Y|simp [go_sem] at Y|skip);(try clear a4 ae a9 V);(try clear m E A u);(try clear q I G z);(try clear y L K H);(try clear J X U M);obtain ⟨a4,m,q,y,J⟩:=Y;obtain ⟨ae,a9,V⟩:=bO a4;obtain ⟨E,A,u⟩:=bO m;obtain ⟨I,G,z⟩:=bO q;obtain ⟨L,K,H⟩:=bO y;obtain ⟨X,U,M⟩:=bO J;have aa:=I6 (w:=w) zB F;clear F
    have aj:jI (Value.slice a1 c.cells q1).ownBlock (Value.slice a2 c.words q2).ownBlock w w1:=mY aa
    clear k0 k1 k2 k3
    obtain ⟨k0,k1,k2,k3⟩:=mF (a:=w) (b:=w1)
    have k4:w4<w1.heap.size:=by omega
    have r1:aD w1 lo (.slice a1 c.cells q1) (bK c i h.seen 1 0).cells:=p1
    have r2:aG w1 lo (.slice a2 c.words q2) (bK c i h.seen 1 0).words:=p2
    go_wp2_with fail
    refine (D.out _ (zO r1 o1) (zO r2 o2)).mono ?_
    rintro _ w3 ⟨⟨y1,y2,rfl,a7,a8,af,ag⟩,N⟩
    have ak:jI (Value.slice a1 c.cells q1).ownBlock (Value.slice a2 c.words q2).ownBlock w w3:=gU zN (dR N)
    have ac:=N.size;(try simp at ac);have Y:=q4 N (b:=w);(first|simp [go_sem,m,q,y,J,M,H,z,u,k0,k1,k2,k3,k4] at Y|simp [go_sem] at Y|skip);(try clear m E A u);(try clear q I G z);(try clear y L K H);(try clear J X U M);obtain ⟨m,q,y,J⟩:=Y;obtain ⟨E,A,u⟩:=bO m;obtain ⟨I,G,z⟩:=bO q;obtain ⟨L,K,H⟩:=bO y;obtain ⟨X,U,M⟩:=bO J;clear N
    obtain ⟨⟨a5,a6⟩,ah,ai⟩:=sO (w:=w) (w+1+1+1+1) af ag b1 b2;obtain ⟨ya,yp,rfl,_⟩:=a7.seg;obtain ⟨yb,yq,rfl,_⟩:=a8.seg
    go_wp2
    refine rE results211 rfl (aO x.1 (.slice ya x.1.cells yp) (.slice yb x.1.words yq) tY) rfl (aJ x.2.1 tY) ⟨⟨_,_,rfl,?_,?_,ah,ai⟩,by exact zN⟩
    · exact zP a7 a7 a5
    · exact zP a8 a8 a6
theorem JO (c:Ch) (h:Ha) (m q:Value) (lo:Nat) (w:World) (h1:aD w lo m c.cells) (A:aG w lo q c.words) (u:0≤h.grow) (y:h.grow<c.cells.length) (hs:(h.seen == 3)=false) (z:(h.seen == 0)=true) (D:bQ c h.grow h.seen 1 0=true) :
    Calls prog 211 #[.agg (aF c m q),.agg (aB h)] w fun r w'=>dJ w w' lo m q (iH c h) r:=(wO c h m q lo w h1 A u y hs z).1 D
theorem JP (c:Ch) (h:Ha) (m q:Value) (lo:Nat) (w:World) (h1:aD w lo m c.cells) (A:aG w lo q c.words) (u:0≤h.grow) (y:h.grow<c.cells.length) (hs:(h.seen == 3)=false) (z:(h.seen == 0)=true) (D:bQ c h.grow h.seen 1 0=false) :
    Calls prog 211 #[.agg (aF c m q),.agg (aB h)] w fun r w'=>dJ w w' lo m q (iH c h) r:=(wO c h m q lo w h1 A u y hs z).2 D
theorem JQ (c:Ch) (h:Ha) (O R:Value) (lo:Nat) (w:World) (h1:aD w lo O c.cells) (H:aG w lo R c.words) (hs:(h.seen == 3)=false) (E:(h.seen == 0)=false) :
    dG 211 c h O R lo w (iH c h):=by
  have e:iH c h=nothing:=by simp at hs E;simp [iH,hs,E]
  rw [e]
  have T:=aA (iX · lo O R)
  generalize nothing=x at *
  have U:=kY h1
  have V:=kY H
  have I:=nO U
  have J:=nO V
  have a0:=I (w.heap.size) tO
  have a6:=J (w.heap.size) tO
  have a3:=I (w+1) tO
  have a7:=J (w+1) tO
  have a4:=I (w+1+1) tO
  have a8:=J (w+1+1) tO
  have a5:=I (w+1+1+1) tO
  have a9:=J (w+1+1+1) tO
  have o1:=h1
  have o2:=H
  obtain ⟨a1,q1,e1,_⟩:=h1.seg
  obtain ⟨a2,q2,e2,_⟩:=H.seg
  subst e1 e2
  clear h1 H e
  go_enter func211,ntmps211
  go_wp2_with fail;refine aK w zB fun D=>?_;refine (jW _ _).mono ?_;rintro _ w4 ⟨rfl,q⟩;obtain ⟨Z,G,r⟩:=fH D q (b:=w);(try simp at G);(try simp [go_sem] at r);replace X:=dW r;clear r q D
  go_wp2_with fail;refine aK w zB fun D=>?_;refine (T.out _).mono ?_;rintro _ w1 ⟨⟨y1,y2,rfl,z,A,K,L⟩,m⟩;obtain ⟨Y,F,r⟩:=fH D m (b:=w);(try simp at F);(first|simp [go_sem,X] at r|simp [go_sem] at r|skip);replace X:=dW r;clear r m D
  obtain ⟨⟨u,y⟩,M,N⟩:=sO (w:=w) (w+1+1+1+1) K L U V;obtain ⟨ya,yp,rfl,_⟩:=z.seg;obtain ⟨yb,yq,rfl,_⟩:=A.seg
  go_wp2
  refine rE results211 rfl (aO x.1 (.slice ya x.1.cells yp) (.slice yb x.1.words yq) tY) rfl (aJ x.2.1 tY) ⟨⟨_,_,rfl,?_,?_,M,N⟩,dR zB⟩
  · exact zP z z u
  · exact zP A A y
theorem FU (c:Ch) (h:Ha) (u y:Value) (lo:Nat) (w:World) (h1:aD w lo u c.cells) (z:aG w lo y c.words) (m:0≤h.grow) (q:h.grow<c.cells.length) :
    dG 211 c h u y lo w (iH c h):=by
  by_cases r:h.seen=3
  · cases A:bQ c h.grow h.seen 6 h.wait with
    | true=>exact JM c h u y lo w h1 z m q (by simpa using r) (by simp [r]) A
    | false=>exact JN c h u y lo w h1 z m q (by simpa using r) (by simp [r]) A
  · by_cases D:h.seen=0
    · cases A:bQ c h.grow h.seen 1 0 with
      | true=>exact JO c h u y lo w h1 z m q (by simpa using r) (by simpa using D) A
      | false=>exact JP c h u y lo w h1 z m q (by simpa using r) (by simpa using D) A
    · exact JQ c h u y lo w h1 z (by simpa using r) (by simpa using D)
end
section
open Go.RowKit
attribute [local simp] aP
attribute [local go_sem ↓] aQ bF aY bY aZ bZ aX bB aN aU
theorem lW (c:Ch) (h:Ha):done c h=nothing∨(done c h).2.2=true:=by
 unfold done
 split
 ·exact .inr rfl
 ·exact .inl rfl
theorem wP (c:Ch) (h:Ha) (a b:Int) (y:Ha):j6 c h a b y=nothing∨(j6 c h a b y).2.2=true:=by
 unfold j6
 split <;> exact lW _ _
theorem wQ (c:Ch) (h:Ha) (a b:Int) (y:Ha):lH c h a b y=nothing∨(lH c h a b y).2.2=true:=by
 unfold lH
 split <;> exact lW _ _
theorem wR (c:Ch) (h:Ha):gX c h=nothing∨(gX c h).2.2=true:=by
 unfold gX
 repeat' split
 all_goals first|exact wP _ _ _ _ _|exact lW _ _|exact .inl rfl
theorem wS (c:Ch) (h:Ha):iH c h=nothing∨(iH c h).2.2=true:=by
 unfold iH
 repeat' split
 all_goals first|exact wQ _ _ _ _ _|exact .inl rfl
theorem Dy (c:Ch) (h:Ha):pO c h=nothing∨(pO c h).2.2=true:=by
 unfold pO
 split
 ·exact wP _ _ _ _ _
 ·exact wR c h
theorem Dz (c:Ch) (h:Ha):nI c h=nothing∨(nI c h).2.2=true:=by
 unfold nI
 split
 ·exact wQ _ _ _ _ _
 ·exact wS c h
def Ie (c:Ch) (h:Ha) (x:St):Prop:=(x=nothing∨x.2.2=true)∨(aW c=true∧x=(c,h,false))
theorem FV (c:Ch) (h:Ha):Ie c h (eF c h):=by
 unfold eF
 split
 ·exact .inl (Dy c h)
 ·unfold bL
  split
  ·rename_i e
   have m:aW c=true:=(dC e).1
   unfold um uw vJ
   repeat' split
   all_goals first|exact .inl (lW _ _)|exact .inl (wR _ _)|exact .inl (.inl rfl)|exact .inr ⟨m,rfl⟩
  ·exact .inl (.inl rfl)
theorem FW (c:Ch) (h:Ha):Ie c h (dQ c h):=by
 unfold dQ
 split
 ·exact .inl (Dz c h)
 ·unfold bP
  split
  ·rename_i e
   have m:aW c=true:=(dC e).1
   unfold l7 ru
   repeat' split
   all_goals first|exact .inl (lW _ _)|exact .inl (wS _ _)|exact .inl (.inl rfl)|exact .inr ⟨m,rfl⟩
  ·exact .inl (.inl rfl)
theorem FX (c:Ch) (h:Ha):Ie c h (bV c h):=by
 unfold bV
 split
 ·rename_i e
  have m:aW c=true:=(dC (Bool.and_eq_true_iff.1 e).1).1
  unfold jR
  repeat' split
  all_goals first|exact .inl (lW _ _)|exact .inl (.inl rfl)|exact .inr ⟨m,rfl⟩
 ·exact .inl (.inl rfl)
theorem qd (c:Ch) (h:Ha) (x:St) (hp:h.pos≠0) (r:Ie c h x):(!x.2.2 && rz x.2.1 h)=gL x:=by
 rcases r with (rfl|e)|⟨q,rfl⟩
 ·have:rz nothing.2.1 h=false:=by
   cases m:rz nothing.2.1 h with
   | false=>rfl
   | true=>rw [Ck] at m;rw [← m] at hp;exact absurd rfl hp
  rw [this,qA]
  rfl
 ·simp [e,gL]
 ·have:=(eU q).1
  simp [yR,gL,this]
theorem FY (c:Ch) (h:Ha):bI c h=nothing∨(bI c h).2.2=true:=by
 unfold bI uk Hg vI jQ
 repeat' split
 all_goals first|exact lW _ _|exact .inl rfl
theorem tV (c:Ch) (h:Ha) (hp:h.pos≤8∨26≤h.pos):gL (iO c h)=false:=by
 have m:∀ x:St,(x=nothing∨x.2.2=true)→gL x=false:=by
  rintro x (rfl|e)
  ·exact qA
  ·simp [gL,e]
 unfold iO
 rw [show dA h.pos 9 15=false by simp [dA];omega,show dA h.pos 16 22=false by simp [dA];omega]
 simp only [Bool.false_eq_true,if_false]
 split
 ·exact m _ (FY c h)
 ·rename_i e
  refine m _ (.inl ?_)
  have q:dA h.pos 23 25=false:=by
   simp [dA] at e ⊢
   omega
  simp [bV,bJ,q]
theorem qN (x:St) (c:Ch) (h:Ha) (a b:Option Addr) (p q:Nat) (w:World) (h1:fA w w a c.cells) (O:a=none→p=0) (L:fD w w b c.words) (R:b=none→q=0)
  (hs:∀ (a b:Option Addr) (p q:Nat) (w:World),fA w w a c.cells→(a=none→p=0)→fD w w b c.words→(b=none→q=0)→Calls prog 259 #[.agg (aF c (.slice a c.cells p) (.slice b c.words q)),.agg (aB h)] w fun r w'=>dE w w' x r) :
  Calls prog 258 #[.agg #[],.agg (aF c (.slice a c.cells p) (.slice b c.words q)),.agg (aB h)] w fun r w'=>dE w w' x r:=by
 have T:=aA h1
 have U:=aA L
 have X:=aA O
 have Y:=aA R
 have V:=aA hs
 clear h1 L O R hs
 have K:∀ j,(Value.slice none 0 0).ownBlock=some j→w.heap.size+1+1+1+1+1≤j:=fun j hj=>by cases hj
 have Z:=K
 go_enter func258,ntmps258
 go_wp2_with fail;refine aK w zB fun E=>?_;refine (V.out _ _ _ _ _ (aT T E) X.out (aT U E) Y.out).mono ?_;rintro _ N ⟨⟨y1,y2,rfl,m,u,F,G⟩,y⟩;obtain ⟨M,D,J⟩:=yL E y (b:=w);(try simp at D);(try simp [go_sem] at J);replace bX:=ll J;clear J y E
 replace m:aD N w y1 x.1.cells:=aH m (by simp;omega)
 replace u:aG N w y2 x.1.words:=aH u (by simp;omega)
 obtain ⟨⟨z,A⟩,H,I⟩:=mW (w:=w) (w+1+1+1+1+1) F G K Z;obtain ⟨ya,yp,rfl,_⟩:=m.seg;obtain ⟨yb,yq,rfl,_⟩:=u.seg
 go_wp2
 refine rE results258 rfl (aO x.1 (.slice ya x.1.cells yp) (.slice yb x.1.words yq) tY) rfl (aJ x.2.1 tY) ⟨⟨_,_,rfl,?_,?_,H,I⟩,by exact zB⟩
 ·exact zP m m z
 ·exact zP u u A
theorem qO (x:St) (c:Ch) (h:Ha) (a b:Option Addr) (p q:Nat) (w:World) (h1:fA w w a c.cells) (O:a=none→p=0) (L:fD w w b c.words) (R:b=none→q=0)
  (hs:∀ (a b:Option Addr) (p q:Nat) (w:World),fA w w a c.cells→(a=none→p=0)→fD w w b c.words→(b=none→q=0)→Calls prog 267 #[.agg (aF c (.slice a c.cells p) (.slice b c.words q)),.agg (aB h)] w fun r w'=>dE w w' x r) :
  Calls prog 266 #[.agg #[],.agg (aF c (.slice a c.cells p) (.slice b c.words q)),.agg (aB h)] w fun r w'=>dE w w' x r:=by
 have T:=aA h1
 have U:=aA L
 have X:=aA O
 have Y:=aA R
 have V:=aA hs
 clear h1 L O R hs
 have K:∀ j,(Value.slice none 0 0).ownBlock=some j→w.heap.size+1+1+1+1+1≤j:=fun j hj=>by cases hj
 have Z:=K
 go_enter func266,ntmps266
 go_wp2_with fail;refine aK w zB fun E=>?_;refine (V.out _ _ _ _ _ (aT T E) X.out (aT U E) Y.out).mono ?_;rintro _ N ⟨⟨y1,y2,rfl,m,u,F,G⟩,y⟩;obtain ⟨M,D,J⟩:=yL E y (b:=w);(try simp at D);(try simp [go_sem] at J);replace bX:=ll J;clear J y E
 replace m:aD N w y1 x.1.cells:=aH m (by simp;omega)
 replace u:aG N w y2 x.1.words:=aH u (by simp;omega)
 obtain ⟨⟨z,A⟩,H,I⟩:=mW (w:=w) (w+1+1+1+1+1) F G K Z;obtain ⟨ya,yp,rfl,_⟩:=m.seg;obtain ⟨yb,yq,rfl,_⟩:=u.seg
 go_wp2
 refine rE results266 rfl (aO x.1 (.slice ya x.1.cells yp) (.slice yb x.1.words yq) tY) rfl (aJ x.2.1 tY) ⟨⟨_,_,rfl,?_,?_,H,I⟩,by exact zB⟩
 ·exact zP m m z
 ·exact zP u u A
theorem qP (x:St) (c:Ch) (h:Ha) (a b:Option Addr) (p q:Nat) (w:World) (h1:fA w w a c.cells) (O:a=none→p=0) (L:fD w w b c.words) (R:b=none→q=0)
  (hs:∀ (a b:Option Addr) (p q:Nat) (w:World),fA w w a c.cells→(a=none→p=0)→fD w w b c.words→(b=none→q=0)→Calls prog 273 #[.agg (aF c (.slice a c.cells p) (.slice b c.words q)),.agg (aB h)] w fun r w'=>dE w w' x r) :
  Calls prog 272 #[.agg #[],.agg (aF c (.slice a c.cells p) (.slice b c.words q)),.agg (aB h)] w fun r w'=>dE w w' x r:=by
 have T:=aA h1
 have U:=aA L
 have X:=aA O
 have Y:=aA R
 have V:=aA hs
 clear h1 L O R hs
 have K:∀ j,(Value.slice none 0 0).ownBlock=some j→w.heap.size+1+1+1+1+1≤j:=fun j hj=>by cases hj
 have Z:=K
 go_enter func272,ntmps272
 go_wp2_with fail;refine aK w zB fun E=>?_;refine (V.out _ _ _ _ _ (aT T E) X.out (aT U E) Y.out).mono ?_;rintro _ N ⟨⟨y1,y2,rfl,m,u,F,G⟩,y⟩;obtain ⟨M,D,J⟩:=yL E y (b:=w);(try simp at D);(try simp [go_sem] at J);replace bX:=ll J;clear J y E
 replace m:aD N w y1 x.1.cells:=aH m (by simp;omega)
 replace u:aG N w y2 x.1.words:=aH u (by simp;omega)
 obtain ⟨⟨z,A⟩,H,I⟩:=mW (w:=w) (w+1+1+1+1+1) F G K Z;obtain ⟨ya,yp,rfl,_⟩:=m.seg;obtain ⟨yb,yq,rfl,_⟩:=u.seg
 go_wp2
 refine rE results272 rfl (aO x.1 (.slice ya x.1.cells yp) (.slice yb x.1.words yq) tY) rfl (aJ x.2.1 tY) ⟨⟨_,_,rfl,?_,?_,H,I⟩,by exact zB⟩
 ·exact zP m m z
 ·exact zP u u A
theorem Ig (n:Int) (w:World) (h:n≤0):Calls prog 157 #[.int .i64 n] w fun r w'=>r=.returned (.iface 200 (.agg #[]))∧w'=w:=by
 go_enter func157,ntmps157
 go_wp2
 all_goals first|(exfalso;omega)|(go_ret;exact ⟨rfl,rfl⟩)
theorem Ih (n:Int) (w:World) (h:1≤n∧n≤8):Calls prog 157 #[.int .i64 n] w fun r w'=>r=.returned (.iface 201 (.agg #[]))∧w'=w:=by
 go_enter func157,ntmps157
 go_wp2
 all_goals first|(exfalso;omega)|(go_ret;exact ⟨rfl,rfl⟩)
theorem Ii (n:Int) (w:World) (h:9≤n∧n≤15):Calls prog 157 #[.int .i64 n] w fun r w'=>r=.returned (.iface 202 (.agg #[]))∧w'=w:=by
 go_enter func157,ntmps157
 go_wp2
 all_goals first|(exfalso;omega)|(go_ret;exact ⟨rfl,rfl⟩)
theorem Ij (n:Int) (w:World) (h:16≤n∧n≤22):Calls prog 157 #[.int .i64 n] w fun r w'=>r=.returned (.iface 203 (.agg #[]))∧w'=w:=by
 go_enter func157,ntmps157
 go_wp2
 all_goals first|(exfalso;omega)|(go_ret;exact ⟨rfl,rfl⟩)
theorem Ik (n:Int) (w:World) (h:23≤n∧n≤25):Calls prog 157 #[.int .i64 n] w fun r w'=>r=.returned (.iface 204 (.agg #[]))∧w'=w:=by
 go_enter func157,ntmps157
 go_wp2
 all_goals first|(exfalso;omega)|(go_ret;exact ⟨rfl,rfl⟩)
theorem Il (n:Int) (w:World) (h:26≤n):Calls prog 157 #[.int .i64 n] w fun r w'=>r=.returned (.iface 200 (.agg #[]))∧w'=w:=by
 go_enter func157,ntmps157
 go_wp2
 all_goals first|(exfalso;omega)|(go_ret;exact ⟨rfl,rfl⟩)
theorem A7 (w:World):(Instr.typeAssert (.iface 202 (.agg #[])) 186 202 true).run prog w=.ok (.tuple #[.agg #[],.bool true]) w:=by kernel_rfl
theorem A8 (w:World):(Instr.typeAssert (.iface 202 (.agg #[])) 186 203 true).run prog w=.ok (.tuple #[.agg #[],.bool false]) w:=by kernel_rfl
theorem A9 (w:World):(Instr.typeAssert (.iface 202 (.agg #[])) 186 204 true).run prog w=.ok (.tuple #[.agg #[],.bool false]) w:=by kernel_rfl
theorem AA (w:World):(Instr.typeAssert (.iface 203 (.agg #[])) 186 202 true).run prog w=.ok (.tuple #[.agg #[],.bool false]) w:=by kernel_rfl
theorem AB (w:World):(Instr.typeAssert (.iface 203 (.agg #[])) 186 203 true).run prog w=.ok (.tuple #[.agg #[],.bool true]) w:=by kernel_rfl
theorem AJ (w:World):(Instr.typeAssert (.iface 203 (.agg #[])) 186 204 true).run prog w=.ok (.tuple #[.agg #[],.bool false]) w:=by kernel_rfl
theorem AO (w:World):(Instr.typeAssert (.iface 204 (.agg #[])) 186 202 true).run prog w=.ok (.tuple #[.agg #[],.bool false]) w:=by kernel_rfl
theorem AP (w:World):(Instr.typeAssert (.iface 204 (.agg #[])) 186 203 true).run prog w=.ok (.tuple #[.agg #[],.bool false]) w:=by kernel_rfl
theorem AQ (w:World):(Instr.typeAssert (.iface 204 (.agg #[])) 186 204 true).run prog w=.ok (.tuple #[.agg #[],.bool true]) w:=by kernel_rfl
theorem AR (w:World):(Instr.typeAssert (.iface 201 (.agg #[])) 186 202 true).run prog w=.ok (.tuple #[.agg #[],.bool false]) w:=by kernel_rfl
theorem AU (w:World):(Instr.typeAssert (.iface 201 (.agg #[])) 186 203 true).run prog w=.ok (.tuple #[.agg #[],.bool false]) w:=by kernel_rfl
theorem AV (w:World):(Instr.typeAssert (.iface 201 (.agg #[])) 186 204 true).run prog w=.ok (.tuple #[.agg #[],.bool false]) w:=by kernel_rfl
theorem wT (w:World):(Instr.typeAssert (.iface 200 (.agg #[])) 186 202 true).run prog w=.ok (.tuple #[.agg #[],.bool false]) w:=by kernel_rfl
theorem wU (w:World):(Instr.typeAssert (.iface 200 (.agg #[])) 186 203 true).run prog w=.ok (.tuple #[.agg #[],.bool false]) w:=by kernel_rfl
theorem wV (w:World):(Instr.typeAssert (.iface 200 (.agg #[])) 186 204 true).run prog w=.ok (.tuple #[.agg #[],.bool false]) w:=by kernel_rfl
theorem Im (n : Nat) (w : World) : (method (n + 1) 202 (.agg #[]) "loop.example/g00794/impl.step").run prog w = .ok (258, .agg #[]) w := by kernel_rfl
theorem Io (n : Nat) (w : World) : (method (n + 1) 203 (.agg #[]) "loop.example/g00794/impl.step").run prog w = .ok (266, .agg #[]) w := by kernel_rfl
theorem Ip (n : Nat) (w : World) : (method (n + 1) 204 (.agg #[]) "loop.example/g00794/impl.step").run prog w = .ok (272, .agg #[]) w := by kernel_rfl
theorem D5 (x:St) (c:Ch) (h:Ha) (a b:Option Addr) (p q:Nat) (w:World) (h1:fA w w a c.cells) (E:a=none→p=0) (D:fD w w b c.words) (F:b=none→q=0)
  (hs:∀ (a b:Option Addr) (p q:Nat) (w:World),fA w w a c.cells→(a=none→p=0)→fD w w b c.words→(b=none→q=0)→Calls prog 259 #[.agg (aF c (.slice a c.cells p) (.slice b c.words q)),.agg (aB h)] w fun r w'=>dE w w' x r) (hp:9≤h.pos∧h.pos≤15) :
  Calls prog 158 #[.agg (aF c (.slice a c.cells p) (.slice b c.words q)),.agg (aB h)] w fun r w'=>r=.returned (.bool (!x.2.2 && rz x.2.1 h))∧Below w w w':=by
 have J:=fun a b p q w h1 E D F=>qN x c h a b p q w h1 E D F hs
 replace hs:=J
 clear J
 have L:=aA h1
 have M:=aA D
 have O:=aA E
 have R:=aA F
 have N:=aA hs
 clear h1 D E F hs
 go_enter func158,ntmps158
 go_wp2_with fail
 refine (Ii h.pos _ hp).mono ?_
 rintro _ _ ⟨rfl,rfl⟩
 have Y:=A7
 have Z:=A8
 have q3:=A9
 have q4:=Im
 go_wp2_with fail
 refine aK w zB fun A=>?_
 refine (N.out _ _ _ _ _ (aT L A) O.out (aT M A) R.out).mono ?_
 rintro _ U ⟨⟨y1,y2,rfl,y,z,G,H⟩,m⟩
 have T:Below w w U:=bT A m
 have u:=m.size;(try simp at u);have I:=QR m (b:=w);(try simp [go_sem] at I);replace V:=uV I;clear I m
 obtain ⟨ya,yp,rfl,_⟩:=y.seg
 obtain ⟨yb,yq,rfl,_⟩:=z.seg
 clear y z G H A
 have X:=o9 x.2.1 h
 cases K:x.2.2 with
 | true =>
  go_wp2
  go_ret
  exact ⟨by simp [K],by exact zB⟩
 | false =>
  go_wp2
  go_ret
  exact ⟨by simp [K],by exact zB⟩
theorem D6 (x:St) (c:Ch) (h:Ha) (a b:Option Addr) (p q:Nat) (w:World) (h1:fA w w a c.cells) (E:a=none→p=0) (D:fD w w b c.words) (F:b=none→q=0)
  (hs:∀ (a b:Option Addr) (p q:Nat) (w:World),fA w w a c.cells→(a=none→p=0)→fD w w b c.words→(b=none→q=0)→Calls prog 267 #[.agg (aF c (.slice a c.cells p) (.slice b c.words q)),.agg (aB h)] w fun r w'=>dE w w' x r) (hp:16≤h.pos∧h.pos≤22) :
  Calls prog 158 #[.agg (aF c (.slice a c.cells p) (.slice b c.words q)),.agg (aB h)] w fun r w'=>r=.returned (.bool (!x.2.2 && rz x.2.1 h))∧Below w w w':=by
 have J:=fun a b p q w h1 E D F=>qO x c h a b p q w h1 E D F hs
 replace hs:=J
 clear J
 have L:=aA h1
 have M:=aA D
 have O:=aA E
 have R:=aA F
 have N:=aA hs
 clear h1 D E F hs
 go_enter func158,ntmps158
 go_wp2_with fail
 refine (Ij h.pos _ hp).mono ?_
 rintro _ _ ⟨rfl,rfl⟩
 have Y:=AA
 have Z:=AB
 have q3:=AJ
 have q4:=Io
 go_wp2_with fail
 refine aK w zB fun A=>?_
 refine (N.out _ _ _ _ _ (aT L A) O.out (aT M A) R.out).mono ?_
 rintro _ U ⟨⟨y1,y2,rfl,y,z,G,H⟩,m⟩
 have T:Below w w U:=bT A m
 have u:=m.size;(try simp at u);have I:=QR m (b:=w);(try simp [go_sem] at I);replace V:=uV I;clear I m
 obtain ⟨ya,yp,rfl,_⟩:=y.seg
 obtain ⟨yb,yq,rfl,_⟩:=z.seg
 clear y z G H A
 have X:=o9 x.2.1 h
 cases K:x.2.2 with
 | true =>
  go_wp2
  go_ret
  exact ⟨by simp [K],by exact zB⟩
 | false =>
  go_wp2
  go_ret
  exact ⟨by simp [K],by exact zB⟩
theorem D7 (x:St) (c:Ch) (h:Ha) (a b:Option Addr) (p q:Nat) (w:World) (h1:fA w w a c.cells) (E:a=none→p=0) (D:fD w w b c.words) (F:b=none→q=0)
  (hs:∀ (a b:Option Addr) (p q:Nat) (w:World),fA w w a c.cells→(a=none→p=0)→fD w w b c.words→(b=none→q=0)→Calls prog 273 #[.agg (aF c (.slice a c.cells p) (.slice b c.words q)),.agg (aB h)] w fun r w'=>dE w w' x r) (hp:23≤h.pos∧h.pos≤25) :
  Calls prog 158 #[.agg (aF c (.slice a c.cells p) (.slice b c.words q)),.agg (aB h)] w fun r w'=>r=.returned (.bool (!x.2.2 && rz x.2.1 h))∧Below w w w':=by
 have J:=fun a b p q w h1 E D F=>qP x c h a b p q w h1 E D F hs
 replace hs:=J
 clear J
 have L:=aA h1
 have M:=aA D
 have O:=aA E
 have R:=aA F
 have N:=aA hs
 clear h1 D E F hs
 go_enter func158,ntmps158
 go_wp2_with fail
 refine (Ik h.pos _ hp).mono ?_
 rintro _ _ ⟨rfl,rfl⟩
 have Y:=AO
 have Z:=AP
 have q3:=AQ
 have q4:=Ip
 go_wp2_with fail
 refine aK w zB fun A=>?_
 refine (N.out _ _ _ _ _ (aT L A) O.out (aT M A) R.out).mono ?_
 rintro _ U ⟨⟨y1,y2,rfl,y,z,G,H⟩,m⟩
 have T:Below w w U:=bT A m
 have u:=m.size;(try simp at u);have I:=QR m (b:=w);(try simp [go_sem] at I);replace V:=uV I;clear I m
 obtain ⟨ya,yp,rfl,_⟩:=y.seg
 obtain ⟨yb,yq,rfl,_⟩:=z.seg
 clear y z G H A
 have X:=o9 x.2.1 h
 cases K:x.2.2 with
 | true =>
  go_wp2
  go_ret
  exact ⟨by simp [K],by exact zB⟩
 | false =>
  go_wp2
  go_ret
  exact ⟨by simp [K],by exact zB⟩
theorem D8 (c:Ch) (h:Ha) (a b:Option Addr) (p q:Nat) (w:World) (hp:h.pos≤0) :
  Calls prog 158 #[.agg (aF c (.slice a c.cells p) (.slice b c.words q)),.agg (aB h)] w fun r w'=>r=.returned (.bool false)∧Below w w w':=by
 go_enter func158,ntmps158
 go_wp2_with fail
 refine (Ig h.pos _ hp).mono ?_
 rintro _ _ ⟨rfl,rfl⟩
 have m:=wT
 have u:=wU
 have y:=wV
 go_wp2
 go_ret
 exact ⟨rfl,by exact zB⟩
theorem D9 (c:Ch) (h:Ha) (a b:Option Addr) (p q:Nat) (w:World) (hp:1≤h.pos∧h.pos≤8) :
  Calls prog 158 #[.agg (aF c (.slice a c.cells p) (.slice b c.words q)),.agg (aB h)] w fun r w'=>r=.returned (.bool false)∧Below w w w':=by
 go_enter func158,ntmps158
 go_wp2_with fail
 refine (Ih h.pos _ hp).mono ?_
 rintro _ _ ⟨rfl,rfl⟩
 have m:=AR
 have u:=AU
 have y:=AV
 go_wp2
 go_ret
 exact ⟨rfl,by exact zB⟩
theorem DC (c:Ch) (h:Ha) (a b:Option Addr) (p q:Nat) (w:World) (hp:26≤h.pos) :
  Calls prog 158 #[.agg (aF c (.slice a c.cells p) (.slice b c.words q)),.agg (aB h)] w fun r w'=>r=.returned (.bool false)∧Below w w w':=by
 go_enter func158,ntmps158
 go_wp2_with fail
 refine (Il h.pos _ hp).mono ?_
 rintro _ _ ⟨rfl,rfl⟩
 have m:=wT
 have u:=wU
 have y:=wV
 go_wp2
 go_ret
 exact ⟨rfl,by exact zB⟩
end
section
open Go.RowKit
attribute [local simp] aP
attribute [local go_sem ↓] aQ bF aY bY aZ bZ aX bB aN aU
theorem DD (c:Ch) (h:Ha) (hp:h.pos≤0∨26≤h.pos):iO c h=nothing:=by
 unfold iO
 rw [show dA h.pos 1 8=false by simp [dA];omega,show dA h.pos 9 15=false by simp [dA];omega,show dA h.pos 16 22=false by simp [dA];omega]
 simp only [Bool.false_eq_true,if_false]
 have m:dA h.pos 23 25=false:=by simp [dA];omega
 simp [bV,bJ,m]
theorem JR (w:World):Calls prog 233 #[] w fun r w'=>r=.returned (.tuple #[.agg (aF Ch.zero (.slice none 0 0) (.slice none 0 0)),.agg (aB Ha.zero),.bool false])∧Below w w w':=by
 go_enter func233,ntmps233
 go_wp2
 exact bodyPost_ret (jZ results233 rfl (aO Ch.zero (.slice none 0 0) (.slice none 0 0) (by simp [go_sem])) rfl (aJ Ha.zero (by simp [go_sem]))) rfl ⟨rfl,by exact zB⟩
theorem xL (x:St) (c:Ch) (h:Ha) (a b:Option Addr) (p q:Nat) (w:World) (h1:fA w w a c.cells) (O:a=none→p=0) (L:fD w w b c.words) (R:b=none→q=0)
  (hs:∀ (a b:Option Addr) (p q:Nat) (w:World),fA w w a c.cells→(a=none→p=0)→fD w w b c.words→(b=none→q=0)→Calls prog 235 #[.agg (aF c (.slice a c.cells p) (.slice b c.words q)),.agg (aB h)] w fun r w'=>dE w w' x r) :
  Calls prog 234 #[.agg #[],.agg (aF c (.slice a c.cells p) (.slice b c.words q)),.agg (aB h)] w fun r w'=>dE w w' x r:=by
 have T:=aA h1
 have U:=aA L
 have X:=aA O
 have Y:=aA R
 have V:=aA hs
 clear h1 L O R hs
 have K:∀ j,(Value.slice none 0 0).ownBlock=some j→w.heap.size+1+1+1+1+1≤j:=fun j hj=>by cases hj
 have Z:=K
 go_enter func234,ntmps234
 go_wp2_with fail;refine aK w zB fun E=>?_;refine (V.out _ _ _ _ _ (aT T E) X.out (aT U E) Y.out).mono ?_;rintro _ N ⟨⟨y1,y2,rfl,m,u,F,G⟩,y⟩;obtain ⟨M,D,J⟩:=yL E y (b:=w);(try simp at D);(try simp [go_sem] at J);replace bX:=ll J;clear J y E
 replace m:aD N w y1 x.1.cells:=aH m (by simp;omega)
 replace u:aG N w y2 x.1.words:=aH u (by simp;omega)
 obtain ⟨⟨z,A⟩,H,I⟩:=mW (w:=w) (w+1+1+1+1+1) F G K Z;obtain ⟨ya,yp,rfl,_⟩:=m.seg;obtain ⟨yb,yq,rfl,_⟩:=u.seg
 go_wp2
 refine rE results234 rfl (aO x.1 (.slice ya x.1.cells yp) (.slice yb x.1.words yq) tY) rfl (aJ x.2.1 tY) ⟨⟨_,_,rfl,?_,?_,H,I⟩,by exact zB⟩
 ·exact zP m m z
 ·exact zP u u A
theorem uI (c:Ch) (h:Ha) (A D:Value) (w:World):Calls prog 232 #[.agg #[],.agg (aF c A D),.agg (aB h)] w fun r w'=>dE w w' nothing r:=by
 go_enter func232,ntmps232
 go_wp2_with fail
 refine aK w zB fun y=>?_
 refine (JR _).mono ?_
 rintro _ E ⟨rfl,m⟩
 have z:Below w w E:=bT y m
 have q:=m.size;(try simp at q);have u:=Rj m (b:=w);(try simp [go_sem] at u);replace F:=ll u;clear u m
 clear y
 go_wp2
 exact bodyPost_ret (jZ results232 rfl (aO Ch.zero (.slice none 0 0) (.slice none 0 0) tY) rfl (aJ Ha.zero tY)) rfl ⟨lT _ _ _ _ _,by exact zB⟩
theorem Pg (n : Nat) (w : World) : (method (n + 1) 201 (.agg #[]) "loop.example/g00794/impl.step").run prog w = .ok (234, .agg #[]) w := by kernel_rfl
theorem PI (n : Nat) (w : World) : (method (n + 1) 200 (.agg #[]) "loop.example/g00794/impl.step").run prog w = .ok (232, .agg #[]) w := by kernel_rfl
theorem mP (x:St) (c:Ch) (h:Ha) (a b:Option Addr) (p q:Nat) (w:World) (h1:fA w w a c.cells) (N:a=none→p=0) (Z:fD w w b c.words) (O:b=none→q=0) (T:TypeId) (F:FuncId) (tb:∀ W:World,Calls prog 157 #[.int .i64 h.pos] W fun r w'=>r=.returned (.iface T (.agg #[]))∧w'=W)
  (me : ∀ (n : Nat) (w : World), (method (n + 1) T (.agg #[]) "loop.example/g00794/impl.step").run prog w = .ok (F, .agg #[]) w) (eg : ∀ (args : Array Value) (w : World), (callFunc F args).run prog w = .ok (.enter F args) w)
  (hs:∀ (a b:Option Addr) (p q:Nat) (w:World),fA w w a c.cells→(a=none→p=0)→fD w w b c.words→(b=none→q=0)→Calls prog F #[.agg #[],.agg (aF c (.slice a c.cells p) (.slice b c.words q)),.agg (aB h)] w fun r w'=>dE w w' x r) :
  Calls prog 105 #[.agg (aF c (.slice a c.cells p) (.slice b c.words q)),.agg (aB h)] w fun r w'=>dE w w' x r:=by
 have H1:=aA h1
 have H2:=aA Z
 have Z1:=aA N
 have Z2:=aA O
 have HS:=aA hs
 clear h1 Z N O hs
 go_enter func105,ntmps105
 go_upto_region 1 with fail
 refine iT [[],[0],[0,1],[],[],[0,1,2,3,4],[0,1,2,3,4,5],[0,1,2,3,4,5],[0,1,2,3,4,5],[0,1,2,3,4,5,6],[0,1,2,3,4,5,7],[0,1,2,3,4,5,8]] [7,8,9,10,11,12,13,14,15,6] (fun l s E=>(Below w w E)∧(w+1+1+1+1≤E.heap.size)∧(hp E w=some (.cells (aF c (.slice a c.cells p) (.slice b c.words q)) 31))∧(hp E (w+1)=some (.cells (aB h) 49))∧(hp E (w+1+1)=some (.cells (cond (l 9) (aF x.1 (s 1003) (s 1004)) (aF Ch.zero (.slice none 0 0) (.slice none 0 0))) 31))∧(hp E (w+1+1+1)=some (.cells (cond (l 10) (aB x.2.1) (aB Ha.zero)) 49))∧(l 0=true→s 7=.pointer (some ⟨w+1,0,none⟩))∧(l 1=true→s 8=.int .i64 h.pos)∧(l 2=true→s 9=.iface T (.agg #[]))∧(l 3=true→s 10=.agg (aF c (.slice a c.cells p) (.slice b c.words q)))∧(l 4=true→s 11=.agg (aB h))∧(l 5=true→s 12=.tuple #[.agg (aF x.1 (s 1003) (s 1004)),.agg (aB x.2.1),.bool x.2.2]∧aD E w (s 1003) x.1.cells∧aG E w (s 1004) x.1.words)∧(l 6=true→s 13=.agg (aF x.1 (s 1003) (s 1004)))∧(l 7=true→s 14=.agg (aB x.2.1))∧(l 8=true→s 15=.bool x.2.2)∧(l 11=true→s 6=.bool x.2.2)) (fun s=>⟨by exact zB,by simp,by simp [go_sem, *],by simp [go_sem, *],by simp [go_sem, *],by simp [go_sem, *],nB,nB,nB,nB,nB,nB,nB,nB,nB,nB⟩) ?_ ?_
 refine ⟨?_,?_,?_,?_,?_,?_,?_,?_,?_,?_,?_,?_,trivial⟩;iterate 12 (intro l s E hl A M m K D;rotate_left)
 ·intro l s E u m
  have hB:=m.1
  have N:=m.2.2.2.2.1
  have O:=(jC m).2.1
  rw [u 9 rfl] at N
  rw [u 10 rfl] at O
  dsimp only [cond] at N O
  obtain ⟨_,G,H⟩:=((jD m).2.2.2.1 (u 5 rfl))
  have Y:=((jC (jD m)).2.2.2 (u 11 rfl))
  simp only [Y]
  clear Y m u
  go_wp2
  exact bodyPost_ret (jZ results105 rfl (aO x.1 _ _ N) rfl (aJ x.2.1 O)) rfl ⟨⟨_,_,rfl,G,H,fun j e=>.inr (G.lt j e).1,fun j e=>.inr (H.lt j e).1⟩,hB⟩
 ·go_simp
  refine D.out (upd s 7 (.pointer (some ⟨w+1,0,none⟩))) _ _ (by simp [aC] <;> rfl) (kC (kB (kX (fun _=>rfl) id)) m.out)
 ·have e0:=((jC m.out).2.2.1 (A 0 rfl))
  have zz:=(bO m.out.2.2.2.1).1 0
  simp [aB] at zz
  go_simp
  refine D.out (upd s 8 (.int .i64 h.pos)) _ _ (by simp [aC,e0] <;> rfl) (kC (kB (kA (kX (fun _=>rfl) id))) m.out)
 ·have e1:=((jC m.out).2.2.2.1 (A 1 rfl))
  go_simp
  go_at_call 157
  refine (tb _).mono ?_
  rintro _ _ ⟨rfl,rfl⟩
  refine D.out (upd s 9 (.iface T (.agg #[]))) _ _ (by simp [aC,e1] <;> rfl) (kD (kX (fun _=>rfl) id) m.out)
 ·have z:=m.out.2.2.1
  go_simp
  refine D.out (upd s 10 (.agg (aF c (.slice a c.cells p) (.slice b c.words q)))) _ _ (by simp [aC] <;> rfl) (kD (kA (kX (fun _=>rfl) id)) m.out)
 ·have z:=m.out.2.2.2.1
  go_simp
  refine D.out (upd s 11 (.agg (aB h))) _ _ (by simp [aC] <;> rfl) (kD (kB (kX (fun _=>rfl) id)) m.out)
 ·have e2:=((jD m.out).1 (A 2 rfl))
  have e3:=((jD m.out).2.1 (A 3 rfl))
  have e4:=((jD m.out).2.2.1 (A 4 rfl))
  have q4:=me
  have q5:=eg
  go_simp
  refine (HS.out _ _ _ _ _ ((H1.out.below m.out.1).more (Below.size m.out.1)) Z1.out ((H2.out.below m.out.1).more (Below.size m.out.1)) Z2.out).mono ?_
  rintro _ wy ⟨⟨y1,y2,rfl,G,H,_,_⟩,L⟩
  refine D.out (upd (upd (upd s 1003 (y1)) 1004 (y2)) 12 (.tuple #[.agg (aF x.1 y1 y2),.agg (aB x.2.1),.bool x.2.2])) _ _ (by simp [aC,e2,e3,e4] <;> rfl) (kX (bT m.out.1 L) (kX (Nat.le_trans m.out.2.1 (Below.size L)) (kX (eP m.out.2.2.1 L) (kX (eP m.out.2.2.2.1 L) (kX (by (have R:l 9=false:=M 9 rfl);(have F:=m.out.2.2.2.2.1);rw [R] at F;rw [show upd l 5 true 9=false from R];exact eP F L) (kX (by (have R:l 10=false:=M 10 rfl);(have F:=(jC m.out).2.1);rw [R] at F;rw [show upd l 5 true 10=false from R];exact eP F L) (kC (kA (kX (fun _=>⟨rfl,aH G (Below.size m.out.1),aH H (Below.size m.out.1)⟩) (kX (nU (M 6 rfl)) (kX (nU (M 7 rfl)) (kX (nU (M 8 rfl)) (fun _=>nU (M 11 rfl))))))))))))) m.out)
 ·have y:=((jD m.out).2.2.2.1 (A 5 rfl)).1
  go_simp
  refine D.out (upd s 13 (.agg (aF x.1 (s 1003) (s 1004)))) _ _ (by simp [aC,y] <;> rfl) (kD (kC (kX (fun _=>rfl) id)) m.out)
 ·have y:=((jD m.out).2.2.2.1 (A 5 rfl)).1
  go_simp
  refine D.out (upd s 14 (.agg (aB x.2.1))) _ _ (by simp [aC,y] <;> rfl) (kD (kC (kA (kX (fun _=>rfl) id))) m.out)
 ·have y:=((jD m.out).2.2.2.1 (A 5 rfl)).1
  go_simp
  refine D.out (upd s 15 (.bool x.2.2)) _ _ (by simp [aC,y] <;> rfl) (kD (kC (kB (kX (fun _=>rfl) id))) m.out)
 ·have X:=((jC (jD m.out)).1 (A 6 rfl))
  have y:=((jD m.out).2.2.2.1 (A 5 rfl))
  have G:=y.2.1
  have H:=y.2.2
  clear y
  have I:=m.out.2.2.2.2.1
  rw [hl] at I
  dsimp only [cond] at I
  obtain ⟨xa,xp,U,_⟩:=G.seg
  obtain ⟨xb,xq,J,_⟩:=H.seg
  rw [U,J] at X
  have V:hp (dF E (w+1+1) (aF x.1 (.slice xa x.1.cells xp) (.slice xb x.1.words xq))) (w+1+1)=some (.cells (aF x.1 (s 1003) (s 1004)) 31):=by rw [U,J];exact ib I
  go_simp
  refine D.out (s) _ _ (by simp [aC,X,U,J] <;> rfl) (kX (BK m.out.1 tO) (kX (Nat.le_trans m.out.2.1 (Nat.le_of_eq aP.symm)) (kX ((aR tO).trans m.out.2.2.1) (kX ((aR tO).trans m.out.2.2.2.1) (kX (V) (kX ((aR tO).trans (jC m.out).2.1) (kC (kA (kX (fun h=>(let ⟨e,G,H⟩:=(jD m.out).2.2.2.1 h;⟨e,dI G I (by decide),dI H I (by decide)⟩)) id)))))))) m.out)
 ·have e7:=((jC (jD m.out)).2.1 (A 7 rfl))
  have y:=((jD m.out).2.2.2.1 (A 5 rfl))
  have G:=y.2.1
  have H:=y.2.2
  clear y
  have I:=(jC m.out).2.1
  rw [hl] at I
  dsimp only [cond] at I
  have V:hp (dF E (w+1+1+1) (aB x.2.1)) (w+1+1+1)=some (.cells (aB x.2.1) 49):=by exact ib I
  go_simp
  refine D.out (s) _ _ (by simp [aC,e7] <;> rfl) (kX (BK m.out.1 tO) (kX (Nat.le_trans m.out.2.1 (Nat.le_of_eq aP.symm)) (kX ((aR tO).trans m.out.2.2.1) (kX ((aR tO).trans m.out.2.2.2.1) (kX ((aR tO).trans m.out.2.2.2.2.1) (kX (V) (kC (kA (kX (fun h=>(let ⟨e,G,H⟩:=(jD m.out).2.2.2.1 h;⟨e,dI G I (by decide),dI H I (by decide)⟩)) id)))))))) m.out)
 ·have e8:=((jC (jD m.out)).2.2.1 (A 8 rfl))
  go_simp
  refine D.out (upd s 6 (.bool x.2.2)) _ _ (by simp [aC,e8] <;> rfl) (kD (kC (kB (kA (fun _=>fun _=>rfl)))) m.out)
theorem FZ (x:St) (c:Ch) (h:Ha) (a b:Option Addr) (p q:Nat) (w:World) (h1:fA w w a c.cells) (y:a=none→p=0) (m:fD w w b c.words) (z:b=none→q=0)
  (hs:∀ (a b:Option Addr) (p q:Nat) (w:World),fA w w a c.cells→(a=none→p=0)→fD w w b c.words→(b=none→q=0)→Calls prog 235 #[.agg (aF c (.slice a c.cells p) (.slice b c.words q)),.agg (aB h)] w fun r w'=>dE w w' x r) (u:1≤h.pos∧h.pos≤8) :
  Calls prog 105 #[.agg (aF c (.slice a c.cells p) (.slice b c.words q)),.agg (aB h)] w fun r w'=>dE w w' x r :=
 mP x c h a b p q w h1 y m z _ _ (fun W=>Ih h.pos W u) Pg (fun args w=>by simp [go_sem]) (fun a b p q w h1 y m z=>xL x c h a b p q w h1 y m z hs)
theorem Ga (x:St) (c:Ch) (h:Ha) (a b:Option Addr) (p q:Nat) (w:World) (h1:fA w w a c.cells) (y:a=none→p=0) (m:fD w w b c.words) (z:b=none→q=0)
  (hs:∀ (a b:Option Addr) (p q:Nat) (w:World),fA w w a c.cells→(a=none→p=0)→fD w w b c.words→(b=none→q=0)→Calls prog 259 #[.agg (aF c (.slice a c.cells p) (.slice b c.words q)),.agg (aB h)] w fun r w'=>dE w w' x r) (u:9≤h.pos∧h.pos≤15) :
  Calls prog 105 #[.agg (aF c (.slice a c.cells p) (.slice b c.words q)),.agg (aB h)] w fun r w'=>dE w w' x r :=
 mP x c h a b p q w h1 y m z _ _ (fun W=>Ii h.pos W u) Im (fun args w=>by simp [go_sem]) (fun a b p q w h1 y m z=>qN x c h a b p q w h1 y m z hs)
theorem Gb (x:St) (c:Ch) (h:Ha) (a b:Option Addr) (p q:Nat) (w:World) (h1:fA w w a c.cells) (y:a=none→p=0) (m:fD w w b c.words) (z:b=none→q=0)
  (hs:∀ (a b:Option Addr) (p q:Nat) (w:World),fA w w a c.cells→(a=none→p=0)→fD w w b c.words→(b=none→q=0)→Calls prog 267 #[.agg (aF c (.slice a c.cells p) (.slice b c.words q)),.agg (aB h)] w fun r w'=>dE w w' x r) (u:16≤h.pos∧h.pos≤22) :
  Calls prog 105 #[.agg (aF c (.slice a c.cells p) (.slice b c.words q)),.agg (aB h)] w fun r w'=>dE w w' x r :=
 mP x c h a b p q w h1 y m z _ _ (fun W=>Ij h.pos W u) Io (fun args w=>by simp [go_sem]) (fun a b p q w h1 y m z=>qO x c h a b p q w h1 y m z hs)
theorem Gc (x:St) (c:Ch) (h:Ha) (a b:Option Addr) (p q:Nat) (w:World) (h1:fA w w a c.cells) (y:a=none→p=0) (m:fD w w b c.words) (z:b=none→q=0)
  (hs:∀ (a b:Option Addr) (p q:Nat) (w:World),fA w w a c.cells→(a=none→p=0)→fD w w b c.words→(b=none→q=0)→Calls prog 273 #[.agg (aF c (.slice a c.cells p) (.slice b c.words q)),.agg (aB h)] w fun r w'=>dE w w' x r) (u:23≤h.pos∧h.pos≤25) :
  Calls prog 105 #[.agg (aF c (.slice a c.cells p) (.slice b c.words q)),.agg (aB h)] w fun r w'=>dE w w' x r :=
 mP x c h a b p q w h1 y m z _ _ (fun W=>Ik h.pos W u) Ip (fun args w=>by simp [go_sem]) (fun a b p q w h1 y m z=>qP x c h a b p q w h1 y m z hs)
theorem JS (c:Ch) (h:Ha) (a b:Option Addr) (p q:Nat) (w:World) (h1:fA w w a c.cells) (y:a=none→p=0) (u:fD w w b c.words) (z:b=none→q=0) (m:h.pos≤0) :
  Calls prog 105 #[.agg (aF c (.slice a c.cells p) (.slice b c.words q)),.agg (aB h)] w fun r w'=>dE w w' nothing r :=
 mP nothing c h a b p q w h1 y u z _ _ (fun W=>Ig h.pos W m) PI (fun args w=>by simp [go_sem]) (fun a b p q w _ _ _ _=>uI c h _ _ w)
theorem JU (c:Ch) (h:Ha) (a b:Option Addr) (p q:Nat) (w:World) (h1:fA w w a c.cells) (y:a=none→p=0) (u:fD w w b c.words) (z:b=none→q=0) (m:26≤h.pos) :
  Calls prog 105 #[.agg (aF c (.slice a c.cells p) (.slice b c.words q)),.agg (aB h)] w fun r w'=>dE w w' nothing r :=
 mP nothing c h a b p q w h1 y u z _ _ (fun W=>Il h.pos W m) PI (fun args w=>by simp [go_sem]) (fun a b p q w _ _ _ _=>uI c h _ _ w)
end
end Go.Proofs.YtffhjmepfojhnaaGreat
