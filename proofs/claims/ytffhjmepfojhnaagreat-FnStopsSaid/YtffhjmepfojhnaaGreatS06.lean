/-
  The reference model's small functions of chapter 6, on hands and channels that are kept whole; lists lie in memory.
-/
import Derived.Test.YtffhjmepfojhnaaGreatS01
import Derived.Test.YtffhjmepfojhnaaGreatS02
import Derived.Test.YtffhjmepfojhnaaGreatS03
import Derived.BigRegion
import Derived.Test.YtffhjmepfojhnaaGreatS04
set_option maxRecDepth 100000
set_option maxHeartbeats 1000000
set_option linter.unusedSimpArgs false
set_option linter.unusedVariables false
namespace Go.Proofs.YtffhjmepfojhnaaGreat
open _root_.Go.Proofs.Tryz
section
open Go.RowKit
attribute [local simp] aP
attribute [local go_sem ↓] aQ bF aY bY aZ bZ aX bB aN aU
theorem nz (c:Ch) (a b:Option Addr) (p q:Nat) (w:World) (h1:fA w w a c.cells) (m:fD w w b c.words) :
  Calls prog 112 #[.agg (aF c (.slice a c.cells p) (.slice b c.words q))] w fun r w'=>r=.returned (.bool (aW c))∧Below w w w':=mg c a b p q w h1 m
theorem dU (c:Ch) (a b:Option Addr) (p q:Nat) (w:World) (h1:fA w w a c.cells) (D:a=none→p=0) (y:fD w w b c.words) (E:b=none→q=0) (z:c.cells.length≤1099511627776) (A:c.words.length≤1099511627776) :
  Calls prog 123 #[.agg (aF c (.slice a c.cells p) (.slice b c.words q))] w fun r w'=>(∃ m u,r=.returned (.agg (aF c m u))∧aD w' w m c.cells∧aG w' w u c.words)∧Below w w w':=ry c a b p q w h1 D y E z A
theorem qm (c:Ch) (v x:Int) (a b:Option Addr) (p q:Nat) (w:World) (h1:fA w w a c.cells) (D:a=none→p=0) (y:fD w w b c.words) (E:b=none→q=0) (z:c.cells.length≤1099511627776) (A:c.words.length≤1099511627776) :
  Calls prog 72 #[.agg (aF c (.slice a c.cells p) (.slice b c.words q)),.int .i64 v,.int .i64 x] w fun r w' =>
   (∃ m u,r=.returned (.tuple #[.agg (aF c m u),.bool (eY c v x)])∧aD w' w m c.cells∧aG w' w u (dM c v x).words)∧Below w w w':=vL c v x a b p q w h1 D y E z A
theorem dS (c:Ch) (h:Ha) (f t k:Int) (a b:Option Addr) (p q:Nat) (w:World) (h1:fA w w a c.cells) (F:fD w w b c.words) :
  Calls prog 196 #[.agg (aF c (.slice a c.cells p) (.slice b c.words q)),.agg (aB h),.int .i64 f,.int .i64 t,.int .i64 k] w fun r w'=>r=.returned (.bool (bJ c h f t k))∧Below w w w':=by
 have I:=aA h1
 have J:=aA F
 clear h1 F
 go_enter func196,ntmps196
 go_wp2_with (first|(go_at_call 112;refine aK w zB fun z=>?_;refine (nz c a b p q _ (aT I z) (aT J z)).mono ?_;rintro _ K ⟨rfl,m⟩;obtain ⟨G,A,y⟩:=BM z m (b:=w);(try simp at A);(try simp [go_sem] at y);replace E:=uV y;clear y m z)|(go_at_call 119;refine aK w zB fun z=>?_;refine (iR _ _).mono ?_;rintro _ L ⟨rfl,u⟩;obtain ⟨H,D,y⟩:=BM z u (b:=w);(try simp at D);(first|simp [go_sem,E] at y|simp [go_sem] at y|skip);replace E:=uV y;clear y u z)|(go_at_call 121;refine (gQ _ _ _ _).mono ?_;rintro _ _ ⟨rfl,rfl⟩))
 all_goals go_ret
 all_goals exact ⟨dB (by simp_all [bJ]),by exact zB⟩
theorem Lj {c:Ch} {h:Ha} (h1:aW c=true) (m:bM h=true):done c h=(c,h,true):=by simp [done,h1,m]
theorem Ll {c:Ch} {h:Ha} (h1:aW c=false):done c h=nothing:=by simp [done,h1]
theorem Lm {c:Ch} {h:Ha} (h1:bM h=false):done c h=nothing:=by simp [done,h1]
def fC (w:World) (v v':Value):Prop:=∀ j,v'.ownBlock=some j→v.ownBlock=some j∨w.heap.size≤j
theorem aM (w:World) (v:Value):fC w v v:=fun _ h=>.inl h
theorem yZ (w:World) (v:Value) (n c:Nat):fC w v (.slice none n c):=fun _ h=>by cases h
theorem fC.off {w q:World} {v m:Value} (h:fC w v m) (r:∀ j,v.ownBlock=some j→j<q.heap.size) {b:Nat} (h1:q.heap.size≤b) (u:b<w.heap.size):m.ownBlock≠some b:=fun e=>by
 rcases h b e with h|h
 ·have:=r b h;omega
 ·omega
def vS (w w':World) (lo:Nat) (v1 v2:Value) (x:St) (r:Ending):Prop:=∃ y1 y2,r=.returned (.tuple #[.agg (aF x.1 y1 y2),.agg (aB x.2.1),.bool x.2.2])∧aD w' lo y1 x.1.cells∧aG w' lo y2 x.1.words∧fC w v1 y1∧fC w v2 y2
theorem sO {w A q:World} {v z u y:Value} (m:Nat) (D:fC A v z) (E:fC q u y) (F:∀ j,v.ownBlock=some j→j<w.heap.size) (G:∀ j,u.ownBlock=some j→j<w.heap.size) (h:m≤A.heap.size:=by (try simp) <;> omega) (I:m≤q.heap.size:=by (try simp) <;> omega) (g:w≤A.heap.size:=by (try simp) <;> omega) (H:w≤q.heap.size:=by (try simp) <;> omega):((∀ j,w.heap.size≤j→j<m→z.ownBlock≠some j)∧(∀ j,w.heap.size≤j→j<m→y.ownBlock≠some j))∧fC w v z∧fC w u y :=
 ⟨⟨fun _ h1 k=>D.off F h1 (Nat.lt_of_lt_of_le k h),fun _ h1 k=>E.off G h1 (Nat.lt_of_lt_of_le k I)⟩,fun j r=>(D j r).imp id (Nat.le_trans g),fun j r=>(E j r).imp id (Nat.le_trans H)⟩
theorem lT (w w':World) (lo:Nat) (m q:Value):vS w w' lo m q nothing (.returned (.tuple #[.agg (aF Ch.zero (.slice none 0 0) (.slice none 0 0)),.agg (aB Ha.zero),.bool false])):=⟨_,_,rfl,World.ownsRow_nil _ _ _ _,World.ownsRow_nil _ _ _ _,yZ _ _ _ _,yZ _ _ _ _⟩
theorem iX (w:World) (lo:Nat) (m q:Value):Calls prog 197 #[] w fun r w'=>vS w w' lo m q nothing r∧Below w w w':=by
 go_enter func197,ntmps197
 go_wp2
 refine rE results197 rfl (aO Ch.zero (.slice none 0 0) (.slice none 0 0) (by simp [go_sem])) rfl (aJ Ha.zero (by simp [go_sem])) ⟨lT _ _ _ _ _,by exact zB⟩
end
section
open Go.RowKit
attribute [local simp] aP
attribute [local go_sem ↓] aQ bF aY bY aZ bZ aX bB aN aU
theorem bU (c:Ch) (h:Ha) (T U:Value) (lo:Nat) (w:World) (h1:aD w lo T c.cells) (L:aG w lo U c.words) :
  Calls prog 198 #[.agg (aF c T U),.agg (aB h)] w fun r w'=>vS w w' lo T U (done c h) r∧Below w w w':=by
 have V:=aA h1
 have X:=aA L
 obtain ⟨a,p,rfl,Y⟩:=h1.seg
 obtain ⟨b,q,rfl,Z⟩:=L.seg
 have J:=aA Y
 have K:=aA Z
 clear h1 L Y Z
 by_cases M:aW c=true
 ·by_cases O:bM h=true
  ·rw [Lj M O]
   go_enter func198,ntmps198
   go_wp2_with (first|(go_at_call 112;refine aK w zB fun z=>?_;refine (nz c a b p q _ (aT J z) (aT K z)).mono ?_;rintro _ w1 ⟨rfl,m⟩;obtain ⟨D,E,y⟩:=fH z m (b:=w);(try simp at E);(try simp [go_sem] at y);replace G:=dW y;clear y;have H:=D;clear m z)|(go_at_call 119;refine aK w zB fun z=>?_;refine (iR _ _).mono ?_;rintro _ w2 ⟨rfl,u⟩;obtain ⟨A,F,y⟩:=fH z u (b:=w);(try simp at F);(first|simp [go_sem,G] at y|simp [go_sem] at y|skip);replace G:=dW y;clear y;have I:=A;clear u z))
   have p1:=own_below V.out A
   have p2:=own_below X.out A
   have o1:=V.out
   have o2:=X.out
   go_region
   go_wp2
   refine rE results198 rfl (aO c (.slice a c.cells p) (.slice b c.words q) tY) rfl (aJ h tY) ⟨⟨_,_,rfl,?_,?_,aM _ _,aM _ _⟩,by exact zB⟩
   ·exact zO p1 o1
   ·exact zO p2 o2
  ·have R:bM h=false:=by simpa using O
   rw [Lm R]
   clear O
   go_enter func198,ntmps198
   go_wp2_with (first|(go_at_call 112;refine aK w zB fun z=>?_;refine (nz c a b p q _ (aT J z) (aT K z)).mono ?_;rintro _ w1 ⟨rfl,m⟩;obtain ⟨D,E,y⟩:=fH z m (b:=w);(try simp at E);(try simp [go_sem] at y);replace G:=dW y;clear y;have H:=D;clear m z)|(go_at_call 119;refine aK w zB fun z=>?_;refine (iR _ _).mono ?_;rintro _ w2 ⟨rfl,u⟩;obtain ⟨A,F,y⟩:=fH z u (b:=w);(try simp at F);(first|simp [go_sem,G] at y|simp [go_sem] at y|skip);replace G:=dW y;clear y;have I:=A;clear u z))
   refine rE results198 rfl (aO Ch.zero (.slice none 0 0) (.slice none 0 0) tY) rfl (aJ Ha.zero tY) ⟨lT _ _ _ _ _,by exact zB⟩
 ·have N:aW c=false:=by simpa using M
  rw [Ll N]
  clear M
  go_enter func198,ntmps198
  go_wp2_with (first|(go_at_call 112;refine aK w zB fun z=>?_;refine (nz c a b p q _ (aT J z) (aT K z)).mono ?_;rintro _ w1 ⟨rfl,m⟩;obtain ⟨D,E,y⟩:=fH z m (b:=w);(try simp at E);(try simp [go_sem] at y);replace G:=dW y;clear y;have H:=D;clear m z)|(go_at_call 119;refine aK w zB fun z=>?_;refine (iR _ _).mono ?_;rintro _ w2 ⟨rfl,u⟩;obtain ⟨A,F,y⟩:=fH z u (b:=w);(try simp at F);(first|simp [go_sem,G] at y|simp [go_sem] at y|skip);replace G:=dW y;clear y;have I:=A;clear u z))
  refine rE results198 rfl (aO Ch.zero (.slice none 0 0) (.slice none 0 0) tY) rfl (aJ Ha.zero tY) ⟨lT _ _ _ _ _,by exact zB⟩
end
section
def nS (c:C3):Nat:=if 2≤c.s then 1 else 0
def zf:List C3→Nat
 | []=>0
 | c :: cs=>nS c+zf cs
theorem vT:∀ (l:List C3) (i:Nat) (x d:C3),i<l.length→zf (l.set i x)+nS (l.getD i d)=zf l+nS x
 | [],i,x,d,h=>by simp at h
 | c :: cs,0,x,d,_=>by simp [zf];omega
 | c :: cs,i+1,x,d,h=>by
  have:=vT cs i x d (by simpa using h)
  simp only [List.set_cons_succ,zf,List.getD_cons_succ];omega
def Wn (c:Ch):Prop:=c.words.length≤zf c.cells
theorem Lp (l:List C3) (i:Nat) (x:C3) (h:¬ i<l.length):l.set i x=l:=List.set_eq_of_length_le tO
theorem EP {c:Ch} {i:Int} {x:C3} (h:Wn c) (q:nS (cellAt c i)≤nS x):Wn (setAt c i x):=by
 unfold Wn setAt at *
 by_cases m:i.toNat<c.cells.length
 ·have:=vT c.cells i.toNat x ⟨0,0,0⟩ m
  unfold cellAt at q
  simp only;omega
 ·simp only [Lp _ _ _ m];exact h
theorem vU {x:C3} (h:2≤x.s):nS x=1:=by simp [nS,h]
theorem Cx (x:C3):nS x≤1:=by unfold nS;split <;> omega
theorem nT {c:Ch} {i m:Int} (h:Wn c) (hs:2≤m):Wn (cB c i m):=EP h (by rw [vU (x:={ cellAt c i with s:=m }) hs];exact Cx _)
theorem Cy (s e t f n v:Int):(jS s e t f n v=true∧s=f∧ng s e t f n v=n)∨(jS s e t f n v=false∧ng s e t f n v=s):=by
 by_cases h:jS s e t f n v=true
 ·refine .inl ⟨h,?_,by simp [ng,h]⟩
  simp [jS] at h
  exact h.1
 ·exact .inr ⟨by simpa using h,by simp [ng,h]⟩
theorem rY {c:Ch} {i f t v:Int} (h:Wn c) (m:2≤t∨f<2):Wn (bK c i f t v):=by
 refine EP h ?_
 rcases Cy (cellAt c i).s (cellAt c i).e (cellAt c i).t f t v with ⟨_,r,q⟩|⟨_,q⟩
 ·rcases m with m|m
  ·rw [vU (x:=lG (cellAt c i) f t v) (by show 2≤ng _ _ _ _ _ _;rw [q];exact m)];exact Cx _
  ·have:¬ 2≤(cellAt c i).s:=by omega
   simp [nS,this]
 ·simp only [nS,lG,q];exact Nat.le_refl _
theorem PQ {c:Ch} {i m:Int} (h:Wn c):Wn (nR c i m):=EP h (Nat.le_refl _)
theorem vo {c:Ch} {v x:Int} (h:Wn c):Wn (dM c v x):=by
 unfold dM
 split
 ·unfold Wn at *;simpa using h
 ·exact h
theorem Hr {c:Ch} {h:Ha} {q z u:Int} (H:Wn c) (hs:h.seen<2) (r:2≤q) (y:h.cell.toNat<c.cells.length):Wn (fP c h q z u).1:=by
 unfold fP
 split
 ·exact H
 ·split
  ·rename_i m
   unfold bQ vH at m
   have E:(cellAt c h.cell).s=h.seen:=by simp [jS] at m;exact m.1
   have B:=vT c.cells h.cell.toNat (lG (cellAt c h.cell) h.seen q (c.words.length+1)) ⟨0,0,0⟩ y
   have A:nS (c.cells.getD h.cell.toNat ⟨0,0,0⟩)=0:=by
    have:¬ 2≤(cellAt c h.cell).s:=by omega
    exact if_neg this
   have D:nS (lG (cellAt c h.cell) h.seen q (c.words.length+1))=1:=vU (by show 2≤ng _ _ _ _ _ _;simp only [ng,m];exact r)
   unfold Wn bK setAt at *
   simp only [List.length_append,List.length_cons,List.length_nil]
   omega
  ·exact rY H (.inl r)
def uB (c:Ch) (s:St):Prop:=Wn c→s.2.2=true→Wn s.1
theorem Ad (c:Ch) (a:Ch) (b:Ha):uB c (a,b,false):=fun _ e=>by cases e
theorem iC (c:Ch):uB c nothing:=fun _ e=>by cases e
theorem dX {c m:Ch} {q:Ha} (H:Wn c→Wn m):uB c (done m q):=by
 unfold done
 split
 ·exact fun h _=>H h
 ·exact iC c
theorem Ht {c:Ch} {h:Ha} {f t k:Int} (e:bJ c h f t k=true):h.cell.toNat<c.cells.length∧h.grow.toNat<c.cells.length:=by
 simp only [bJ,bM,qy,Bool.and_eq_true,iP] at e
 have:=(lQ e.1).1
 obtain ⟨_,⟨_,⟨⟨m,q⟩,⟨r,u⟩,_⟩,_⟩,_⟩:=e
 omega
theorem Ox (c:Ch) (h:Ha):uB c (bI c h):=by
 unfold bI
 split
 ·rename_i e
  have q:=(Ht e).1
  repeat' split
  ·unfold uk;split <;> exact dX fun H=>H
  ·exact dX fun H=>PQ H
  ·unfold vI;split
   ·exact dX fun H=>H
   ·exact iC c
  ·exact dX fun H=>H
  ·exact dX fun H=>H
  ·unfold jQ
   split
   ·exact iC c
   ·split
    ·rename_i m
     simp at m
     exact dX fun H=>Hr H tO (by decide) q
    ·split <;> exact dX fun H=>rY H (.inl (by decide))
  ·exact dX fun H=>vo H
  ·exact dX fun H=>nT H (by decide)
 ·exact iC c
theorem Oy (c:Ch) (h:Ha):uB c (bL c h):=by
 unfold bL
 split
 ·rename_i e
  have q:=(Ht e).1
  repeat' split
  ·unfold um;split <;> exact dX fun H=>H
  ·unfold uw
   repeat' split
   ·exact Ad c _ _
   ·exact dX fun H=>H
   ·exact iC c
  ·exact dX fun H=>H
  ·unfold gX j6
   repeat' split
   all_goals first|exact iC c|exact dX fun H=>rY H (.inl (by decide))|skip
   rename_i m _
   simp at m
   exact dX fun H=>Hr H tO (by decide) q
  ·exact dX fun H=>vo H
  ·exact dX fun H=>nT H (by decide)
  ·exact dX fun H=>nT H (by decide)
 ·exact iC c
theorem Oz (c:Ch) (h:Ha):uB c (bP c h):=by
 unfold bP
 repeat' split
 all_goals try exact iC c
 ·unfold iJ;split <;> exact dX fun H=>H
 ·exact dX fun H=>H
 ·exact dX fun H=>H
 ·unfold l7;split
  ·exact Ad c _ _
  ·exact dX fun H=>H
 ·unfold iH lH
  repeat' split
  all_goals first|exact iC c|exact dX fun H=>rY H (.inl (by decide))|skip
  all_goals
   rename_i m _
   simp at m
   exact dX fun H=>rY H (.inr tO)
 ·exact dX fun H=>vo H
 ·exact dX fun H=>nT H (by decide)
 ·exact dX fun H=>nT H (by decide)
theorem O0 (c:Ch) (h:Ha):uB c (bV c h):=by
 unfold bV
 repeat' split
 all_goals try exact iC c
 ·unfold jR
  repeat' split
  all_goals first|exact Ad c _ _|exact dX fun H=>H
 ·exact dX fun H=>H
 ·exact dX fun H=>nT H (by unfold pg;split <;> decide)
theorem O5 (c:Ch) (h:Ha):uB c (fZ c h):=by
 unfold fZ
 repeat' split
 ·exact Ox c h
 ·exact Oy c h
 ·exact Oz c h
 ·exact O0 c h
theorem Ja {x:Wo} {who:Int} (q:fK x) (m:cK x who=true) (h:Wn x.ch) (hs:(eT x who).2=true):Wn (eT x who).1.ch:=by
 obtain ⟨_,_,_,r,u⟩:=lS q m hs
 rw [r]
 exact O5 _ _ h u
theorem Jb (n:Nat):∀ (x:Wo) (who:Int),fK x→cK x who=true→Wn x.ch→Wn (fV n x who).1.ch:=by
 induction n with
 | zero=>exact fun x who _ _ h=>h
 | succ n ih =>
  intro x who q m h
  unfold fV
  split
  ·exact h
  ·split
   ·rename_i h1
    obtain ⟨r,u,_⟩:=lS q m h1
    exact ih _ who r (by unfold cK at m ⊢;rw [u];exact m) (Ja q m h h1)
   ·exact h
theorem Cz {x:Wo} {who most:Int} (q:fK x) (m:cK x who=true) (r:0≤most) (h1:most≤20000) (h:Wn x.ch):Wn (alone x who most).1.ch:=by
 have e:alone x who most=((fV most.toNat x who).1,((fV most.toNat x who).2:Int)):=by simp [alone,(gP x).2 q,m,lu r h1]
 rw [e]
 exact Jb _ _ _ q m h
theorem vV {x:Wo} {who:Int} (q:fK x) (m:cK x who=true) (h:Wn x.ch):Wn (stopped x who).1.ch:=by
 unfold stopped
 rw [if_pos (by simp [(gP x).2 q,m])]
 split
 ·exact h
 ·exact vo h
theorem PR {cap tasks:Int} (m:0≤cap) (h1:cap≤4) (q:1≤tasks) (r:tasks≤6):Wn (fQ cap tasks).1.ch:=by
 unfold Wn
 rw [(yU m h1 q r).2.2.2]
 exact Nat.zero_le _
end
end Go.Proofs.YtffhjmepfojhnaaGreat
