/-
  Whether a step of the program waits, by the contracts of its steps; lists lie in memory.
-/
import Derived.Test.YtffhjmepfojhnaaGreatT18
import Derived.Test.YtffhjmepfojhnaaGreatT05
import Derived.Test.YtffhjmepfojhnaaGreatT04
import Derived.Deep.RegionHeld3
import Derived.Deep.DeepCutAuto
import Derived.Test.YtffhjmepfojhnaaGreatRows
import Derived.Test.YtffhjmepfojhnaaGreatT01
import Derived.ProofKit
import Derived.OpenShut
import Derived.ShutString
import Derived.ChangeOld
import Derived.Deep.Slices
import Derived.Deep.Fields
set_option maxRecDepth 100000
set_option maxHeartbeats 4000000
set_option linter.unusedSimpArgs false
set_option linter.unusedVariables false
namespace Go.Proofs.YtffhjmepfojhnaaGreat
open _root_.Go.Proofs.Tryz
section
open Go.RowKit
attribute [local simp] dz
attribute [local go_sem ↓] dA fU dO gW dP gY dW fE bK eO
theorem nP (c:Ch) (h:Ha):done c h=nothing∨(done c h).2.2=true:=by
 unfold done;split
 ·exact .inr rfl
 ·exact .inl rfl
theorem Bc (c:Ch) (h:Ha) (a b:Int) (y:Ha):iF c h a b y=nothing∨(iF c h a b y).2.2=true:=by
 unfold iF;split <;> exact nP _ _
theorem Bd (c:Ch) (h:Ha) (a b:Int) (y:Ha):kF c h a b y=nothing∨(kF c h a b y).2.2=true:=by
 unfold kF;split <;> exact nP _ _
theorem Be (c:Ch) (h:Ha):fZ c h=nothing∨(fZ c h).2.2=true:=by
 unfold fZ
 repeat' split
 all_goals first|exact Bc _ _ _ _ _|exact nP _ _|exact .inl rfl
theorem Bf (c:Ch) (h:Ha):iw c h=nothing∨(iw c h).2.2=true:=by
 unfold iw
 repeat' split
 all_goals first|exact Bd _ _ _ _ _|exact .inl rfl
theorem Hf (c:Ch) (h:Ha):uk c h=nothing∨(uk c h).2.2=true:=by
 unfold uk;split
 ·exact Bc _ _ _ _ _
 ·exact Be c h
theorem Hg (c:Ch) (h:Ha):qg c h=nothing∨(qg c h).2.2=true:=by
 unfold qg;split
 ·exact Bd _ _ _ _ _
 ·exact Bf c h
def La (c:Ch) (h:Ha) (x:St):Prop:=(x=nothing∨x.2.2=true)∨(aN c=true∧x=(c,h,false))
theorem JQ (c:Ch) (h:Ha):La c h (fG c h):=by
 unfold fG;split
 ·exact .inl (Hf c h)
 ·unfold aO
  split
  ·rename_i e
   have hc:aN c=true:=(cO e).1;unfold sN sP yG
   repeat' split
   all_goals first|exact .inl (nP _ _)|exact .inl (Be _ _)|exact .inl (.inl rfl)|exact .inr ⟨hc,rfl⟩
  ·exact .inl (.inl rfl)
theorem JR (c:Ch) (h:Ha):La c h (eF c h):=by
 unfold eF;split
 ·exact .inl (Hg c h)
 ·unfold aW
  split
  ·rename_i e
   have hc:aN c=true:=(cO e).1;unfold ko uf
   repeat' split
   all_goals first|exact .inl (nP _ _)|exact .inl (Bf _ _)|exact .inl (.inl rfl)|exact .inr ⟨hc,rfl⟩
  ·exact .inl (.inl rfl)
theorem JS (c:Ch) (h:Ha):La c h (bJ c h):=by
 unfold bJ;split
 ·rename_i e
  have hc:aN c=true:=(cO (Bool.and_eq_true_iff.1 e).1).1;unfold j5
  repeat' split
  all_goals first|exact .inl (nP _ _)|exact .inl (.inl rfl)|exact .inr ⟨hc,rfl⟩
 ·exact .inl (.inl rfl)
theorem uJ (c:Ch) (h:Ha) (x:St) (hp:h.pos≠0) (G:La c h x):(!x.2.2 && vV x.2.1 h)=gV x:=by
 rcases G with (rfl|e)|⟨hc,rfl⟩
 ·have:vV nothing.2.1 h=false:=by
   cases F:vV nothing.2.1 h with
   | false=>rfl
   | true=>rw [FM] at F;rw [← F] at hp;exact absurd rfl hp
  rw [this,vG];rfl
 ·simp [e,gV]
 ·have:=(fT hc).1
  simp [LQ,gV,this]
theorem JU (c:Ch) (h:Ha):bE c h=nothing∨(bE c h).2.2=true:=by
 unfold bE vC KM vD jS
 repeat' split
 all_goals first|exact nP _ _|exact .inl rfl
theorem xW (c:Ch) (h:Ha) (hp:h.pos≤8∨26≤h.pos):gV (vF c h)=false:=by
 have F:∀ x:St,(x=nothing∨x.2.2=true)→gV x=false:=by
  rintro x (rfl|e)
  ·exact vG
  ·simp [gV,e]
 unfold vF;rw [show dV h.pos 9 15=false by simp [dV];omega,show dV h.pos 16 22=false by simp [dV];omega]
 simp only [Bool.false_eq_true,if_false];split
 ·exact F _ (JU c h)
 ·rename_i e
  refine F _ (.inl ?_);have G:dV h.pos 23 25=false:=by
   simp [dV] at e ⊢;omega
  simp [bJ,bC,G]
theorem BS (x:St) (c:Ch) (h:Ha) (a b:Option Addr) (p q:Nat) (w:World) (h1:gG w w a c.cells) (z1:a=none→p=0) (h2:gI w w b c.words) (Y:b=none→q=0)
  (hs:∀ (a b:Option Addr) (p q:Nat) (w:World),gG w w a c.cells→(a=none→p=0)→gI w w b c.words→(b=none→q=0)→Calls prog 259 #[.agg (aH c (.slice a c.cells p) (.slice b c.words q)),.agg (aB h)] w fun r w'=>dU w w' x r) :
  Calls prog 258 #[.agg #[],.agg (aH c (.slice a c.cells p) (.slice b c.words q)),.agg (aB h)] w fun r w'=>dU w w' x r:=by
 have Z:=aA h1;have H2:=aA h2;have Z1:=aA z1;have Z2:=aA Y;have HS:=aA hs;clear h1 h2 z1 Y hs;have U:∀ j,(Value.slice none 0 0).ownBlock=some j→w.heap.size+1+1+1+1+1≤j:=fun j hj=>by cases hj
 have d2:=U;go_enter func258,ntmps258;go_wp2_with fail;refine aK w zB fun L=>?_;refine (HS.out _ _ _ _ _ (aT Z L) Z1.out (aT H2 L) Z2.out).mono ?_;rintro _ X ⟨⟨y1,y2,rfl,F,G,M,N⟩,H⟩;obtain ⟨V,K,T⟩:=D8 L H (b:=w);(try simp at K);(try simp [go_sem] at T);replace bX:=ng T;clear T H L
 replace F:aF X w y1 x.1.cells:=aL F dQ;replace G:aI X w y2 x.1.words:=aL G dQ;obtain ⟨⟨I,J⟩,O,R⟩:=BI (w:=w) (w+1+1+1+1+1) M N U d2;obtain ⟨ya,yp,rfl,_⟩:=F.seg;obtain ⟨yb,yq,rfl,_⟩:=G.seg;go_wp2;refine rE results258 rfl (bN x.1 (.slice ya x.1.cells yp) (.slice yb x.1.words yq) tY) rfl (aQ x.2.1 tY) ⟨⟨_,_,rfl,?_,?_,O,R⟩,zB⟩
 ·exact zP F F I
 ·exact zP G G J
theorem BU (x:St) (c:Ch) (h:Ha) (a b:Option Addr) (p q:Nat) (w:World) (h1:gG w w a c.cells) (z1:a=none→p=0) (h2:gI w w b c.words) (Y:b=none→q=0)
  (hs:∀ (a b:Option Addr) (p q:Nat) (w:World),gG w w a c.cells→(a=none→p=0)→gI w w b c.words→(b=none→q=0)→Calls prog 267 #[.agg (aH c (.slice a c.cells p) (.slice b c.words q)),.agg (aB h)] w fun r w'=>dU w w' x r) :
  Calls prog 266 #[.agg #[],.agg (aH c (.slice a c.cells p) (.slice b c.words q)),.agg (aB h)] w fun r w'=>dU w w' x r:=by
 have Z:=aA h1;have H2:=aA h2;have Z1:=aA z1;have Z2:=aA Y;have HS:=aA hs;clear h1 h2 z1 Y hs;have U:∀ j,(Value.slice none 0 0).ownBlock=some j→w.heap.size+1+1+1+1+1≤j:=fun j hj=>by cases hj
 have d2:=U;go_enter func266,ntmps266;go_wp2_with fail;refine aK w zB fun L=>?_;refine (HS.out _ _ _ _ _ (aT Z L) Z1.out (aT H2 L) Z2.out).mono ?_;rintro _ X ⟨⟨y1,y2,rfl,F,G,M,N⟩,H⟩;obtain ⟨V,K,T⟩:=D8 L H (b:=w);(try simp at K);(try simp [go_sem] at T);replace bX:=ng T;clear T H L
 replace F:aF X w y1 x.1.cells:=aL F dQ;replace G:aI X w y2 x.1.words:=aL G dQ;obtain ⟨⟨I,J⟩,O,R⟩:=BI (w:=w) (w+1+1+1+1+1) M N U d2;obtain ⟨ya,yp,rfl,_⟩:=F.seg;obtain ⟨yb,yq,rfl,_⟩:=G.seg;go_wp2;refine rE results266 rfl (bN x.1 (.slice ya x.1.cells yp) (.slice yb x.1.words yq) tY) rfl (aQ x.2.1 tY) ⟨⟨_,_,rfl,?_,?_,O,R⟩,zB⟩
 ·exact zP F F I
 ·exact zP G G J
theorem BV (x:St) (c:Ch) (h:Ha) (a b:Option Addr) (p q:Nat) (w:World) (h1:gG w w a c.cells) (z1:a=none→p=0) (h2:gI w w b c.words) (Y:b=none→q=0)
  (hs:∀ (a b:Option Addr) (p q:Nat) (w:World),gG w w a c.cells→(a=none→p=0)→gI w w b c.words→(b=none→q=0)→Calls prog 273 #[.agg (aH c (.slice a c.cells p) (.slice b c.words q)),.agg (aB h)] w fun r w'=>dU w w' x r) :
  Calls prog 272 #[.agg #[],.agg (aH c (.slice a c.cells p) (.slice b c.words q)),.agg (aB h)] w fun r w'=>dU w w' x r:=by
 have Z:=aA h1;have H2:=aA h2;have Z1:=aA z1;have Z2:=aA Y;have HS:=aA hs;clear h1 h2 z1 Y hs;have U:∀ j,(Value.slice none 0 0).ownBlock=some j→w.heap.size+1+1+1+1+1≤j:=fun j hj=>by cases hj
 have d2:=U;go_enter func272,ntmps272;go_wp2_with fail;refine aK w zB fun L=>?_;refine (HS.out _ _ _ _ _ (aT Z L) Z1.out (aT H2 L) Z2.out).mono ?_;rintro _ X ⟨⟨y1,y2,rfl,F,G,M,N⟩,H⟩;obtain ⟨V,K,T⟩:=D8 L H (b:=w);(try simp at K);(try simp [go_sem] at T);replace bX:=ng T;clear T H L
 replace F:aF X w y1 x.1.cells:=aL F dQ;replace G:aI X w y2 x.1.words:=aL G dQ;obtain ⟨⟨I,J⟩,O,R⟩:=BI (w:=w) (w+1+1+1+1+1) M N U d2;obtain ⟨ya,yp,rfl,_⟩:=F.seg;obtain ⟨yb,yq,rfl,_⟩:=G.seg;go_wp2;refine rE results272 rfl (bN x.1 (.slice ya x.1.cells yp) (.slice yb x.1.words yq) tY) rfl (aQ x.2.1 tY) ⟨⟨_,_,rfl,?_,?_,O,R⟩,zB⟩
 ·exact zP F F I
 ·exact zP G G J
theorem Tw (n:Int) (w:World) (h:n≤0):Calls prog 157 #[.int .i64 n] w fun r w'=>r=.returned (.iface 200 (.agg #[]))∧w'=w:=by
 exact CO
theorem Tx (n:Int) (w:World) (h:1≤n∧n≤8):Calls prog 157 #[.int .i64 n] w fun r w'=>r=.returned (.iface 201 (.agg #[]))∧w'=w:=by
 exact CO
theorem Ty (n:Int) (w:World) (h:9≤n∧n≤15):Calls prog 157 #[.int .i64 n] w fun r w'=>r=.returned (.iface 202 (.agg #[]))∧w'=w:=by
 exact CO
theorem Tz (n:Int) (w:World) (h:16≤n∧n≤22):Calls prog 157 #[.int .i64 n] w fun r w'=>r=.returned (.iface 203 (.agg #[]))∧w'=w:=by
 exact CO
theorem T9 (n:Int) (w:World) (h:23≤n∧n≤25):Calls prog 157 #[.int .i64 n] w fun r w'=>r=.returned (.iface 204 (.agg #[]))∧w'=w:=by
 exact CO
theorem TA (n:Int) (w:World) (h:26≤n):Calls prog 157 #[.int .i64 n] w fun r w'=>r=.returned (.iface 200 (.agg #[]))∧w'=w:=by
 exact CO
theorem Ej (w:World):(Instr.typeAssert (.iface 202 (.agg #[])) 186 202 true).run prog w=.ok (.tuple #[.agg #[],.bool true]) w:=by kernel_rfl
theorem El (w:World):(Instr.typeAssert (.iface 202 (.agg #[])) 186 203 true).run prog w=.ok (.tuple #[.agg #[],.bool false]) w:=by kernel_rfl
theorem Em (w:World):(Instr.typeAssert (.iface 202 (.agg #[])) 186 204 true).run prog w=.ok (.tuple #[.agg #[],.bool false]) w:=by kernel_rfl
theorem En (w:World):(Instr.typeAssert (.iface 203 (.agg #[])) 186 202 true).run prog w=.ok (.tuple #[.agg #[],.bool false]) w:=by kernel_rfl
theorem Eo (w:World):(Instr.typeAssert (.iface 203 (.agg #[])) 186 203 true).run prog w=.ok (.tuple #[.agg #[],.bool true]) w:=by kernel_rfl
theorem Ep (w:World):(Instr.typeAssert (.iface 203 (.agg #[])) 186 204 true).run prog w=.ok (.tuple #[.agg #[],.bool false]) w:=by kernel_rfl
theorem Er (w:World):(Instr.typeAssert (.iface 204 (.agg #[])) 186 202 true).run prog w=.ok (.tuple #[.agg #[],.bool false]) w:=by kernel_rfl
theorem Es (w:World):(Instr.typeAssert (.iface 204 (.agg #[])) 186 203 true).run prog w=.ok (.tuple #[.agg #[],.bool false]) w:=by kernel_rfl
theorem Et (w:World):(Instr.typeAssert (.iface 204 (.agg #[])) 186 204 true).run prog w=.ok (.tuple #[.agg #[],.bool true]) w:=by kernel_rfl
theorem Eu (w:World):(Instr.typeAssert (.iface 201 (.agg #[])) 186 202 true).run prog w=.ok (.tuple #[.agg #[],.bool false]) w:=by kernel_rfl
theorem Ew (w:World):(Instr.typeAssert (.iface 201 (.agg #[])) 186 203 true).run prog w=.ok (.tuple #[.agg #[],.bool false]) w:=by kernel_rfl
theorem Ex (w:World):(Instr.typeAssert (.iface 201 (.agg #[])) 186 204 true).run prog w=.ok (.tuple #[.agg #[],.bool false]) w:=by kernel_rfl
theorem Bg (w:World):(Instr.typeAssert (.iface 200 (.agg #[])) 186 202 true).run prog w=.ok (.tuple #[.agg #[],.bool false]) w:=by kernel_rfl
theorem Bh (w:World):(Instr.typeAssert (.iface 200 (.agg #[])) 186 203 true).run prog w=.ok (.tuple #[.agg #[],.bool false]) w:=by kernel_rfl
theorem Bi (w:World):(Instr.typeAssert (.iface 200 (.agg #[])) 186 204 true).run prog w=.ok (.tuple #[.agg #[],.bool false]) w:=by kernel_rfl
theorem TB (n : Nat) (w : World) : (method (n + 1) 202 (.agg #[]) "loop.example/g00794/impl.step").run prog w = .ok (258, .agg #[]) w := by kernel_rfl
theorem TC (n : Nat) (w : World) : (method (n + 1) 203 (.agg #[]) "loop.example/g00794/impl.step").run prog w = .ok (266, .agg #[]) w := by kernel_rfl
theorem TD (n : Nat) (w : World) : (method (n + 1) 204 (.agg #[]) "loop.example/g00794/impl.step").run prog w = .ok (272, .agg #[]) w := by kernel_rfl
theorem Hl (x:St) (c:Ch) (h:Ha) (a b:Option Addr) (p q:Nat) (w:World) (h1:gG w w a c.cells) (z1:a=none→p=0) (h2:gI w w b c.words) (F:b=none→q=0)
  (hs:∀ (a b:Option Addr) (p q:Nat) (w:World),gG w w a c.cells→(a=none→p=0)→gI w w b c.words→(b=none→q=0)→Calls prog 259 #[.agg (aH c (.slice a c.cells p) (.slice b c.words q)),.agg (aB h)] w fun r w'=>dU w w' x r) (hp:9≤h.pos∧h.pos≤15) :
  Calls prog 158 #[.agg (aH c (.slice a c.cells p) (.slice b c.words q)),.agg (aB h)] w fun r w'=>r=.returned (.bool (!x.2.2 && vV x.2.1 h))∧Below w w w':=by
 have G:=fun a b p q w h1 z1 h2 F=>BS x c h a b p q w h1 z1 h2 F hs
 replace hs:=G;clear G;have H1:=aA h1;have H2:=aA h2;have Z1:=aA z1;have Z2:=aA F;have HS:=aA hs;clear h1 h2 z1 F hs;go_enter func158,ntmps158;go_wp2_with fail;refine (Ty h.pos _ hp).mono ?_;rintro _ _ ⟨rfl,rfl⟩;have H:=Ej;have I:=El;have J:=Em;have q4:=TB;exact Oe
theorem Hm (x:St) (c:Ch) (h:Ha) (a b:Option Addr) (p q:Nat) (w:World) (h1:gG w w a c.cells) (z1:a=none→p=0) (h2:gI w w b c.words) (F:b=none→q=0)
  (hs:∀ (a b:Option Addr) (p q:Nat) (w:World),gG w w a c.cells→(a=none→p=0)→gI w w b c.words→(b=none→q=0)→Calls prog 267 #[.agg (aH c (.slice a c.cells p) (.slice b c.words q)),.agg (aB h)] w fun r w'=>dU w w' x r) (hp:16≤h.pos∧h.pos≤22) :
  Calls prog 158 #[.agg (aH c (.slice a c.cells p) (.slice b c.words q)),.agg (aB h)] w fun r w'=>r=.returned (.bool (!x.2.2 && vV x.2.1 h))∧Below w w w':=by
 have G:=fun a b p q w h1 z1 h2 F=>BU x c h a b p q w h1 z1 h2 F hs
 replace hs:=G;clear G;have H1:=aA h1;have H2:=aA h2;have Z1:=aA z1;have Z2:=aA F;have HS:=aA hs;clear h1 h2 z1 F hs;go_enter func158,ntmps158;go_wp2_with fail;refine (Tz h.pos _ hp).mono ?_;rintro _ _ ⟨rfl,rfl⟩;have H:=En;have I:=Eo;have J:=Ep;have q4:=TC;exact Oe
theorem Ho (x:St) (c:Ch) (h:Ha) (a b:Option Addr) (p q:Nat) (w:World) (h1:gG w w a c.cells) (z1:a=none→p=0) (h2:gI w w b c.words) (F:b=none→q=0)
  (hs:∀ (a b:Option Addr) (p q:Nat) (w:World),gG w w a c.cells→(a=none→p=0)→gI w w b c.words→(b=none→q=0)→Calls prog 273 #[.agg (aH c (.slice a c.cells p) (.slice b c.words q)),.agg (aB h)] w fun r w'=>dU w w' x r) (hp:23≤h.pos∧h.pos≤25) :
  Calls prog 158 #[.agg (aH c (.slice a c.cells p) (.slice b c.words q)),.agg (aB h)] w fun r w'=>r=.returned (.bool (!x.2.2 && vV x.2.1 h))∧Below w w w':=by
 have G:=fun a b p q w h1 z1 h2 F=>BV x c h a b p q w h1 z1 h2 F hs
 replace hs:=G;clear G;have H1:=aA h1;have H2:=aA h2;have Z1:=aA z1;have Z2:=aA F;have HS:=aA hs;clear h1 h2 z1 F hs;go_enter func158,ntmps158;go_wp2_with fail;refine (T9 h.pos _ hp).mono ?_;rintro _ _ ⟨rfl,rfl⟩;have H:=Er;have I:=Es;have J:=Et;have q4:=TD;exact Oe
theorem Hq (c:Ch) (h:Ha) (a b:Option Addr) (p q:Nat) (w:World) (hp:h.pos≤0) :
  Calls prog 158 #[.agg (aH c (.slice a c.cells p) (.slice b c.words q)),.agg (aB h)] w fun r w'=>r=.returned (.bool false)∧Below w w w':=by
 go_enter func158,ntmps158
 go_wp2_with fail;refine (Tw h.pos _ hp).mono ?_
 rintro _ _ ⟨rfl,rfl⟩;have F:=Bg;have G:=Bh;have H:=Bi;go_wp2;go_ret;exact ⟨rfl,zB⟩
theorem Hr (c:Ch) (h:Ha) (a b:Option Addr) (p q:Nat) (w:World) (hp:1≤h.pos∧h.pos≤8) :
  Calls prog 158 #[.agg (aH c (.slice a c.cells p) (.slice b c.words q)),.agg (aB h)] w fun r w'=>r=.returned (.bool false)∧Below w w w':=by
 go_enter func158,ntmps158
 go_wp2_with fail;refine (Tx h.pos _ hp).mono ?_
 rintro _ _ ⟨rfl,rfl⟩;have F:=Eu;have G:=Ew;have H:=Ex;go_wp2;go_ret;exact ⟨rfl,zB⟩
theorem Ht (c:Ch) (h:Ha) (a b:Option Addr) (p q:Nat) (w:World) (hp:26≤h.pos) :
  Calls prog 158 #[.agg (aH c (.slice a c.cells p) (.slice b c.words q)),.agg (aB h)] w fun r w'=>r=.returned (.bool false)∧Below w w w':=by
 go_enter func158,ntmps158
 go_wp2_with fail;refine (TA h.pos _ hp).mono ?_
 rintro _ _ ⟨rfl,rfl⟩;have F:=Bg;have G:=Bh;have H:=Bi;go_wp2;go_ret;exact ⟨rfl,zB⟩
end
section
open Go.ChangeShapes Go.WideShapes Go.ChangeAt Go.RowKit Go.Deep
theorem own:ownKnob Tryz.prog.godebug=none:=by kernel_rfl
theorem laidOut:laidOutB prog=true:=by kernel_rfl
section
variable {H:Type} {enc:TypeId × Value→H} {P:Program} {w:World} {spare:Nat→Bool} {held:Bool}
theorem Vl {α:Type} (k:Nat) (val:α→Nat→Value) (Q:α→Prop) (Z:α) {t e:TypeId} (ht:P.underlying t=some (.slice e)) (hk:P.cellsOf e=k) (U:0<k)
  (O:∀ (F:Nat) (cs:List Value) (x:DataW H × List MemPlace),DataW.trod enc P w 0 spare held F e cs=some x→∃ c:α,Q c∧∀ j,j<k→cs[j]?=some (val c j))
  {F:Nat} {cs:List Value} {x:DataW H × List MemPlace} (h:DataW.trod enc P w 0 spare held F t cs=some x) :
  ∃ (a:Option Addr) (l:List α) (cap:Nat),cs=[.slice a l.length cap]∧l.length≤cap∧cap≤maxLen∧(∀ c ∈ l,Q c)∧Seg w w a l.length k (fun i j=>val (l.getD i Z) j):=by
 rcases open_slice ht h with ⟨I,_⟩|⟨N,len,cap,m,n,D,Pl,I,_,hl,hm,V,_,hi⟩
 ·exact ⟨none,[],0,I,Nat.le_refl _,Nat.zero_le _,by simp,.inl rfl⟩
 ·have a1:len≤m:=by rw [V];split <;> omega
  have hx:∀ i:Nat,∃ c:α,i<len→(Q c∧∀ j,j<k→w.cell? (N.add (i*k+j))=some (val c j)):=by
   intro i;by_cases G:i<len
   ·obtain ⟨a0,hc,X⟩:=hi i tO
    rw [hk] at hc;obtain ⟨_,_,R⟩:=World.cells?_some hc;obtain ⟨c,hq,hv⟩:=O _ _ _ X;refine ⟨c,fun _=>⟨hq,fun j M=>?_⟩⟩;rw [← Go.Deep.add_add,R j M,hv j M]
   ·exact ⟨Z,fun h=>absurd h G⟩
  obtain ⟨g,T⟩:=Classical.axiomOfChoice hx;refine ⟨some N,(List.range len).map g,cap,by simpa using I,by simpa using hl,hm,?_,?_⟩
  ·intro c hc
   obtain ⟨i,J,rfl⟩:=List.mem_map.1 hc;exact (T i (List.mem_range.1 J)).1
  ·by_cases h0:len=0
   ·exact .inl (by simpa using h0)
   ·obtain ⟨b,Y,L⟩:=N
    have hz:=(T 0 tO).2 0 U;have K:L=none:=by simpa [Addr.add] using World.cell?_spot hz
    subst K;refine .inr ⟨b,Y,rfl,?_,fun i j J M=>?_⟩
    ·have:=block_lt_of_cell hz
     simpa [Addr.add] using this
    ·have G:i<len:=by simpa using J
     have:=(T i G).2 j M;rw [add_plain,← Nat.add_assoc] at this;rw [this];simp [List.getD,G]
end
end
section
open Go.ChangeShapes Go.WideShapes Go.ChangeAt Go.RowKit Go.Deep
section
variable {H:Type} {enc:TypeId × Value→H} {w:World} {spare:Nat→Bool} {held:Bool}
theorem Vm {r:Reach} {K:Nat} {v:Value} {d:DataW H} {p:List MemPlace} (N:Value.okWide prog w r K 22 v) (h:DataW.Trod enc prog w 0 spare held 22 v d p) :
  ∃ (a:Option Addr) (n cap:Nat) (bs:Nat→Int),v=.slice a n cap∧n≤maxLen∧(∀ j,0≤bs j∧bs j≤255)∧Seg w w a n 1 (fun j _=>.int .u8 (bs j)):=by
 obtain ⟨a,len,cap,rfl⟩:=okWide_slice underlying22 N;obtain ⟨F,M⟩:=h
 obtain ⟨T,l,J,G,h1,h2,h3,L⟩:=Vl 1 (fun (c:Int) _=>.int .u8 c) (fun c=>0≤c∧c≤255) 0 underlying22 bH cB (fun F cs x R=>by
  obtain ⟨c,rfl,_,O⟩:=DataW.trod_int underlying5 R;refine ⟨c,?_,fun j I=>?_⟩
  ·simp [Lit.wf,IntKind.min,IntKind.max,IntKind.signed,IntKind.bits] at O;omega
  ·have:j=0:=by omega
   subst this;rfl) M
 simp [Value.cells] at G;obtain ⟨rfl,rfl,rfl⟩:=G;refine ⟨a,l.length,cap,fun j=>l.getD j 0,rfl,Nat.le_trans h1 h2,fun j=>?_,L⟩;by_cases I:j<l.length
 ·have:=h3 l[j] (List.getElem_mem I)
  simpa [List.getD,I] using this
 ·have:l.getD j 0=0:=by simp [List.getD,Nat.le_of_not_lt I]
  show 0≤l.getD j 0∧l.getD j 0≤255;rw [this];omega
end
end
end Go.Proofs.YtffhjmepfojhnaaGreat
