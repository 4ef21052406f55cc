/-
  Whether a step of the program waits, by the contracts of its steps; lists lie in memory.
-/
import Derived.Test.YtffhjmepfojhnaaGreatR13
import Derived.Test.YtffhjmepfojhnaaGreatR01
import Derived.Test.YtffhjmepfojhnaaGreatR05
import Derived.Deep.RegionHeld3
import Derived.Deep.DeepCutAuto
import Derived.Test.YtffhjmepfojhnaaGreatR06
import Derived.Test.YtffhjmepfojhnaaGreatR11
import Derived.Test.YtffhjmepfojhnaaGreatR09
import Derived.Test.YtffhjmepfojhnaaGreatR03
set_option maxRecDepth 100000
set_option maxHeartbeats 4000000
set_option linter.unusedSimpArgs false
set_option linter.unusedVariables false
namespace Go.Proofs.YtffhjmepfojhnaaGreat
section
open Go.RowKit
attribute [local simp] aC
attribute [local go_sem ↓] aB aU aL bB aM bC aG aN au aF
theorem kg (c:Ch) (h:Ha):done c h=nothing∨(done c h).2.2=true:=by
 unfold done
 split
 ·exact .inr rfl
 ·exact .inl rfl
theorem tX (c:Ch) (h:Ha) (a b:Int) (y:Ha):iA c h a b y=nothing∨(iA c h a b y).2.2=true:=by
 unfold iA
 split <;> exact kg _ _
theorem uf (c:Ch) (h:Ha) (a b:Int) (y:Ha):kS c h a b y=nothing∨(kS c h a b y).2.2=true:=by
 unfold kS
 split <;> exact kg _ _
theorem ug (c:Ch) (h:Ha):fG c h=nothing∨(fG c h).2.2=true:=by
 unfold fG
 repeat' split
 all_goals first|exact tX _ _ _ _ _|exact kg _ _|exact .inl rfl
theorem uh (c:Ch) (h:Ha):gz c h=nothing∨(gz c h).2.2=true:=by
 unfold gz
 repeat' split
 all_goals first|exact uf _ _ _ _ _|exact .inl rfl
theorem AV (c:Ch) (h:Ha):om c h=nothing∨(om c h).2.2=true:=by
 unfold om
 split
 ·exact tX _ _ _ _ _
 ·exact ug c h
theorem AX (c:Ch) (h:Ha):mo c h=nothing∨(mo c h).2.2=true:=by
 unfold mo
 split
 ·exact uf _ _ _ _ _
 ·exact uh c h
def Fy (c:Ch) (h:Ha) (x:St):Prop:=(x=nothing∨x.2.2=true)∨(aK c=true∧x=(c,h,false))
theorem Du (c:Ch) (h:Ha):Fy c h (dM c h):=by
 unfold dM
 split
 ·exact .inl (AV c h)
 ·unfold bg
  split
  ·rename_i e
   have hc:aK c=true:=(bQ e).1
   unfold wW wX wY
   repeat' split
   all_goals first|exact .inl (kg _ _)|exact .inl (ug _ _)|exact .inl (.inl rfl)|exact .inr ⟨hc,rfl⟩
  ·exact .inl (.inl rfl)
theorem Dv (c:Ch) (h:Ha):Fy c h (dn c h):=by
 unfold dn
 split
 ·exact .inl (AX c h)
 ·unfold bH
  split
  ·rename_i e
   have hc:aK c=true:=(bQ e).1
   unfold lF qY
   repeat' split
   all_goals first|exact .inl (kg _ _)|exact .inl (uh _ _)|exact .inl (.inl rfl)|exact .inr ⟨hc,rfl⟩
  ·exact .inl (.inl rfl)
theorem Dw (c:Ch) (h:Ha):Fy c h (bU c h):=by
 unfold bU
 split
 ·rename_i e
  have hc:aK c=true:=(bQ (Bool.and_eq_true_iff.1 e).1).1
  unfold jf
  repeat' split
  all_goals first|exact .inl (kg _ _)|exact .inl (.inl rfl)|exact .inr ⟨hc,rfl⟩
 ·exact .inl (.inl rfl)
theorem oo (c:Ch) (h:Ha) (x:St) (hp:h.pos≠0) (hw:Fy c h x):(!x.2.2 && pR x.2.1 h)=eZ x:=by
 rcases hw with (rfl|e)|⟨hc,rfl⟩
 ·have:pR nothing.2.1 h=false:=by
   cases he:pR nothing.2.1 h with
   | false=>rfl
   | true=>rw [Ai] at he;rw [← he] at hp;exact absurd rfl hp
  rw [this,oP]
  rfl
 ·simp [e,eZ]
 ·have:=(dU hc).1
  simp [Gj,eZ,this]
theorem Dx (c:Ch) (h:Ha):aZ c h=nothing∨(aZ c h).2.2=true:=by
 unfold aZ wV Fh Ab iK
 repeat' split
 all_goals first|exact kg _ _|exact .inl rfl
theorem rz (c:Ch) (h:Ha) (hp:h.pos≤8∨26≤h.pos):eZ (iC c h)=false:=by
 have key:∀ x:St,(x=nothing∨x.2.2=true)→eZ x=false:=by
  rintro x (rfl|e)
  ·exact oP
  ·simp [eZ,e]
 unfold iC
 rw [show dm h.pos 9 15=false by simp [dm];omega,show dm h.pos 16 22=false by simp [dm];omega]
 simp only [Bool.false_eq_true,if_false]
 split
 ·exact key _ (Dx c h)
 ·rename_i e
  refine key _ (.inl ?_)
  have e2:dm h.pos 23 25=false:=by
   simp [dm] at e ⊢
   omega
  simp [bU,bf,e2]
theorem oQ (x:St) (c:Ch) (h:Ha) (a b:Option Addr) (p q:Nat) (w:World) (h1:eY w w.heap.size a c.cells) (z1:a=none→p=0) (h2:eQ w w.heap.size b c.words) (z2:b=none→q=0)
  (hs:∀ (a b:Option Addr) (p q:Nat) (w:World),eY w w.heap.size a c.cells→(a=none→p=0)→eQ w w.heap.size b c.words→(b=none→q=0)→Calls Tryz.prog 259 #[.agg (af c (.slice a c.cells.length p) (.slice b c.words.length q)),.agg (aa h)] w fun r w'=>bV w w' x r) :
  Calls Tryz.prog 258 #[.agg #[],.agg (af c (.slice a c.cells.length p) (.slice b c.words.length q)),.agg (aa h)] w fun r w'=>bV w w' x r:=by
 have H1:=Lib.hid h1
 have H2:=Lib.hid h2
 have Z1:=Lib.hid z1
 have Z2:=Lib.hid z2
 have HS:=Lib.hid hs
 clear h1 h2 z1 z2 hs
 have d1:∀ j,(Value.slice none 0 0).ownBlock=some j→w.heap.size+1+1+1+1+1≤j:=fun j hj=>by cases hj
 have d2:=d1
 go_enter Tryz.func258,Tryz.ntmps258
 go_wp2_with fail;refine ax w zB fun bb=>?_;refine (HS.out _ _ _ _ _ (aT H1 bb) Z1.out (aT H2 bb) Z2.out).mono ?_;rintro _ w9 ⟨⟨y1,y2,rfl,aV,aX,dL,dI⟩,eG⟩;obtain ⟨sI,jc,zz⟩:=wU bb eG (b:=w.heap.size);(try simp at jc);(try simp [go_sem] at zz);replace bX:=jL zz;clear zz eG bb
 replace aV:ag w9 w.heap.size y1 x.1.cells:=av aV (by simp;omega)
 replace aX:ai w9 w.heap.size y2 x.1.words:=av aX (by simp;omega)
 obtain ⟨⟨aI,aJ⟩,dP,dQ⟩:=lL (w:=w) (w.heap.size+1+1+1+1+1) dL dI d1 d2;obtain ⟨ya,yp,rfl,_⟩:=aV.seg;obtain ⟨yb,yq,rfl,_⟩:=aX.seg
 go_wp2
 refine rE Tryz.results258 rfl (az x.1 (.slice ya x.1.cells.length yp) (.slice yb x.1.words.length yq) tY) rfl (aj x.2.1 tY) ⟨⟨_,_,rfl,?_,?_,dP,dQ⟩,by exact zB⟩
 ·exact zP aV aV aI
 ·exact zP aX aX aJ
theorem oU (x:St) (c:Ch) (h:Ha) (a b:Option Addr) (p q:Nat) (w:World) (h1:eY w w.heap.size a c.cells) (z1:a=none→p=0) (h2:eQ w w.heap.size b c.words) (z2:b=none→q=0)
  (hs:∀ (a b:Option Addr) (p q:Nat) (w:World),eY w w.heap.size a c.cells→(a=none→p=0)→eQ w w.heap.size b c.words→(b=none→q=0)→Calls Tryz.prog 267 #[.agg (af c (.slice a c.cells.length p) (.slice b c.words.length q)),.agg (aa h)] w fun r w'=>bV w w' x r) :
  Calls Tryz.prog 266 #[.agg #[],.agg (af c (.slice a c.cells.length p) (.slice b c.words.length q)),.agg (aa h)] w fun r w'=>bV w w' x r:=by
 have H1:=Lib.hid h1
 have H2:=Lib.hid h2
 have Z1:=Lib.hid z1
 have Z2:=Lib.hid z2
 have HS:=Lib.hid hs
 clear h1 h2 z1 z2 hs
 have d1:∀ j,(Value.slice none 0 0).ownBlock=some j→w.heap.size+1+1+1+1+1≤j:=fun j hj=>by cases hj
 have d2:=d1
 go_enter Tryz.func266,Tryz.ntmps266
 go_wp2_with fail;refine ax w zB fun bb=>?_;refine (HS.out _ _ _ _ _ (aT H1 bb) Z1.out (aT H2 bb) Z2.out).mono ?_;rintro _ w9 ⟨⟨y1,y2,rfl,aV,aX,dL,dI⟩,eG⟩;obtain ⟨sI,jc,zz⟩:=wU bb eG (b:=w.heap.size);(try simp at jc);(try simp [go_sem] at zz);replace bX:=jL zz;clear zz eG bb
 replace aV:ag w9 w.heap.size y1 x.1.cells:=av aV (by simp;omega)
 replace aX:ai w9 w.heap.size y2 x.1.words:=av aX (by simp;omega)
 obtain ⟨⟨aI,aJ⟩,dP,dQ⟩:=lL (w:=w) (w.heap.size+1+1+1+1+1) dL dI d1 d2;obtain ⟨ya,yp,rfl,_⟩:=aV.seg;obtain ⟨yb,yq,rfl,_⟩:=aX.seg
 go_wp2
 refine rE Tryz.results266 rfl (az x.1 (.slice ya x.1.cells.length yp) (.slice yb x.1.words.length yq) tY) rfl (aj x.2.1 tY) ⟨⟨_,_,rfl,?_,?_,dP,dQ⟩,by exact zB⟩
 ·exact zP aV aV aI
 ·exact zP aX aX aJ
theorem oV (x:St) (c:Ch) (h:Ha) (a b:Option Addr) (p q:Nat) (w:World) (h1:eY w w.heap.size a c.cells) (z1:a=none→p=0) (h2:eQ w w.heap.size b c.words) (z2:b=none→q=0)
  (hs:∀ (a b:Option Addr) (p q:Nat) (w:World),eY w w.heap.size a c.cells→(a=none→p=0)→eQ w w.heap.size b c.words→(b=none→q=0)→Calls Tryz.prog 273 #[.agg (af c (.slice a c.cells.length p) (.slice b c.words.length q)),.agg (aa h)] w fun r w'=>bV w w' x r) :
  Calls Tryz.prog 272 #[.agg #[],.agg (af c (.slice a c.cells.length p) (.slice b c.words.length q)),.agg (aa h)] w fun r w'=>bV w w' x r:=by
 have H1:=Lib.hid h1
 have H2:=Lib.hid h2
 have Z1:=Lib.hid z1
 have Z2:=Lib.hid z2
 have HS:=Lib.hid hs
 clear h1 h2 z1 z2 hs
 have d1:∀ j,(Value.slice none 0 0).ownBlock=some j→w.heap.size+1+1+1+1+1≤j:=fun j hj=>by cases hj
 have d2:=d1
 go_enter Tryz.func272,Tryz.ntmps272
 go_wp2_with fail;refine ax w zB fun bb=>?_;refine (HS.out _ _ _ _ _ (aT H1 bb) Z1.out (aT H2 bb) Z2.out).mono ?_;rintro _ w9 ⟨⟨y1,y2,rfl,aV,aX,dL,dI⟩,eG⟩;obtain ⟨sI,jc,zz⟩:=wU bb eG (b:=w.heap.size);(try simp at jc);(try simp [go_sem] at zz);replace bX:=jL zz;clear zz eG bb
 replace aV:ag w9 w.heap.size y1 x.1.cells:=av aV (by simp;omega)
 replace aX:ai w9 w.heap.size y2 x.1.words:=av aX (by simp;omega)
 obtain ⟨⟨aI,aJ⟩,dP,dQ⟩:=lL (w:=w) (w.heap.size+1+1+1+1+1) dL dI d1 d2;obtain ⟨ya,yp,rfl,_⟩:=aV.seg;obtain ⟨yb,yq,rfl,_⟩:=aX.seg
 go_wp2
 refine rE Tryz.results272 rfl (az x.1 (.slice ya x.1.cells.length yp) (.slice yb x.1.words.length yq) tY) rfl (aj x.2.1 tY) ⟨⟨_,_,rfl,?_,?_,dP,dQ⟩,by exact zB⟩
 ·exact zP aV aV aI
 ·exact zP aX aX aJ
theorem Fz (n:Int) (w:World) (h:n≤0):Calls Tryz.prog 157 #[.int .i64 n] w fun r w'=>r=.returned (.iface 200 (.agg #[]))∧w'=w:=by
 go_enter Tryz.func157,Tryz.ntmps157
 go_wp2
 all_goals first|(exfalso;omega)|(go_ret;exact ⟨rfl,rfl⟩)
theorem F5 (n:Int) (w:World) (h:1≤n∧n≤8):Calls Tryz.prog 157 #[.int .i64 n] w fun r w'=>r=.returned (.iface 201 (.agg #[]))∧w'=w:=by
 go_enter Tryz.func157,Tryz.ntmps157
 go_wp2
 all_goals first|(exfalso;omega)|(go_ret;exact ⟨rfl,rfl⟩)
theorem F6 (n:Int) (w:World) (h:9≤n∧n≤15):Calls Tryz.prog 157 #[.int .i64 n] w fun r w'=>r=.returned (.iface 202 (.agg #[]))∧w'=w:=by
 go_enter Tryz.func157,Tryz.ntmps157
 go_wp2
 all_goals first|(exfalso;omega)|(go_ret;exact ⟨rfl,rfl⟩)
theorem F7 (n:Int) (w:World) (h:16≤n∧n≤22):Calls Tryz.prog 157 #[.int .i64 n] w fun r w'=>r=.returned (.iface 203 (.agg #[]))∧w'=w:=by
 go_enter Tryz.func157,Tryz.ntmps157
 go_wp2
 all_goals first|(exfalso;omega)|(go_ret;exact ⟨rfl,rfl⟩)
theorem F9 (n:Int) (w:World) (h:23≤n∧n≤25):Calls Tryz.prog 157 #[.int .i64 n] w fun r w'=>r=.returned (.iface 204 (.agg #[]))∧w'=w:=by
 go_enter Tryz.func157,Tryz.ntmps157
 go_wp2
 all_goals first|(exfalso;omega)|(go_ret;exact ⟨rfl,rfl⟩)
theorem FB (n:Int) (w:World) (h:26≤n):Calls Tryz.prog 157 #[.int .i64 n] w fun r w'=>r=.returned (.iface 200 (.agg #[]))∧w'=w:=by
 go_enter Tryz.func157,Tryz.ntmps157
 go_wp2
 all_goals first|(exfalso;omega)|(go_ret;exact ⟨rfl,rfl⟩)
theorem yc (w:World):(Instr.typeAssert (.iface 202 (.agg #[])) 186 202 true).run Tryz.prog w=.ok (.tuple #[.agg #[],.bool true]) w:=by kernel_rfl
theorem yg (w:World):(Instr.typeAssert (.iface 202 (.agg #[])) 186 203 true).run Tryz.prog w=.ok (.tuple #[.agg #[],.bool false]) w:=by kernel_rfl
theorem yh (w:World):(Instr.typeAssert (.iface 202 (.agg #[])) 186 204 true).run Tryz.prog w=.ok (.tuple #[.agg #[],.bool false]) w:=by kernel_rfl
theorem yj (w:World):(Instr.typeAssert (.iface 203 (.agg #[])) 186 202 true).run Tryz.prog w=.ok (.tuple #[.agg #[],.bool false]) w:=by kernel_rfl
theorem yl (w:World):(Instr.typeAssert (.iface 203 (.agg #[])) 186 203 true).run Tryz.prog w=.ok (.tuple #[.agg #[],.bool true]) w:=by kernel_rfl
theorem ym (w:World):(Instr.typeAssert (.iface 203 (.agg #[])) 186 204 true).run Tryz.prog w=.ok (.tuple #[.agg #[],.bool false]) w:=by kernel_rfl
theorem yn (w:World):(Instr.typeAssert (.iface 204 (.agg #[])) 186 202 true).run Tryz.prog w=.ok (.tuple #[.agg #[],.bool false]) w:=by kernel_rfl
theorem yo (w:World):(Instr.typeAssert (.iface 204 (.agg #[])) 186 203 true).run Tryz.prog w=.ok (.tuple #[.agg #[],.bool false]) w:=by kernel_rfl
theorem yt (w:World):(Instr.typeAssert (.iface 204 (.agg #[])) 186 204 true).run Tryz.prog w=.ok (.tuple #[.agg #[],.bool true]) w:=by kernel_rfl
theorem yu (w:World):(Instr.typeAssert (.iface 201 (.agg #[])) 186 202 true).run Tryz.prog w=.ok (.tuple #[.agg #[],.bool false]) w:=by kernel_rfl
theorem yw (w:World):(Instr.typeAssert (.iface 201 (.agg #[])) 186 203 true).run Tryz.prog w=.ok (.tuple #[.agg #[],.bool false]) w:=by kernel_rfl
theorem yx (w:World):(Instr.typeAssert (.iface 201 (.agg #[])) 186 204 true).run Tryz.prog w=.ok (.tuple #[.agg #[],.bool false]) w:=by kernel_rfl
theorem ui (w:World):(Instr.typeAssert (.iface 200 (.agg #[])) 186 202 true).run Tryz.prog w=.ok (.tuple #[.agg #[],.bool false]) w:=by kernel_rfl
theorem uj (w:World):(Instr.typeAssert (.iface 200 (.agg #[])) 186 203 true).run Tryz.prog w=.ok (.tuple #[.agg #[],.bool false]) w:=by kernel_rfl
theorem uk (w:World):(Instr.typeAssert (.iface 200 (.agg #[])) 186 204 true).run Tryz.prog w=.ok (.tuple #[.agg #[],.bool false]) w:=by kernel_rfl
theorem FC (n : Nat) (w : World) : (method (n + 1) 202 (.agg #[]) "loop.example/g00794/impl.step").run Tryz.prog w = .ok (258, .agg #[]) w := by kernel_rfl
theorem FD (n : Nat) (w : World) : (method (n + 1) 203 (.agg #[]) "loop.example/g00794/impl.step").run Tryz.prog w = .ok (266, .agg #[]) w := by kernel_rfl
theorem FH (n : Nat) (w : World) : (method (n + 1) 204 (.agg #[]) "loop.example/g00794/impl.step").run Tryz.prog w = .ok (272, .agg #[]) w := by kernel_rfl
theorem AY (x:St) (c:Ch) (h:Ha) (a b:Option Addr) (p q:Nat) (w:World) (h1:eY w w.heap.size a c.cells) (z1:a=none→p=0) (h2:eQ w w.heap.size b c.words) (z2:b=none→q=0)
  (hs:∀ (a b:Option Addr) (p q:Nat) (w:World),eY w w.heap.size a c.cells→(a=none→p=0)→eQ w w.heap.size b c.words→(b=none→q=0)→Calls Tryz.prog 259 #[.agg (af c (.slice a c.cells.length p) (.slice b c.words.length q)),.agg (aa h)] w fun r w'=>bV w w' x r) (hp:9≤h.pos∧h.pos≤15) :
  Calls Tryz.prog 158 #[.agg (af c (.slice a c.cells.length p) (.slice b c.words.length q)),.agg (aa h)] w fun r w'=>r=.returned (.bool (!x.2.2 && pR x.2.1 h))∧Below w.heap.size w w':=by
 have hT:=fun a b p q w h1 z1 h2 z2=>oQ x c h a b p q w h1 z1 h2 z2 hs
 replace hs:=hT
 clear hT
 have H1:=Lib.hid h1
 have H2:=Lib.hid h2
 have Z1:=Lib.hid z1
 have Z2:=Lib.hid z2
 have HS:=Lib.hid hs
 clear h1 h2 z1 z2 hs
 go_enter Tryz.func158,Tryz.ntmps158
 go_wp2_with fail
 refine (F6 h.pos _ hp).mono ?_
 rintro _ _ ⟨rfl,rfl⟩
 have q1:=yc
 have q2:=yg
 have q3:=yh
 have q4:=FC
 go_wp2_with fail
 refine ax w zB fun bb=>?_
 refine (HS.out _ _ _ _ _ (aT H1 bb) Z1.out (aT H2 bb) Z2.out).mono ?_
 rintro _ w9 ⟨⟨y1,y2,rfl,aV,aX,dL,dI⟩,eG⟩
 have JG:Below w.heap.size w w9:=bT bb eG
 have jc:=eG.size;(try simp at jc);have zz:=Rq eG (b:=w.heap.size);(try simp [go_sem] at zz);replace bX:=zS zz;clear zz eG
 obtain ⟨ya,yp,rfl,_⟩:=aV.seg
 obtain ⟨yb,yq,rfl,_⟩:=aX.seg
 clear aV aX dL dI bb
 have ee:=oI x.2.1 h
 cases hx:x.2.2 with
 | true =>
  go_wp2
  go_ret
  exact ⟨by simp [hx],by exact zB⟩
 | false =>
  go_wp2
  go_ret
  exact ⟨by simp [hx],by exact zB⟩
theorem AZ (x:St) (c:Ch) (h:Ha) (a b:Option Addr) (p q:Nat) (w:World) (h1:eY w w.heap.size a c.cells) (z1:a=none→p=0) (h2:eQ w w.heap.size b c.words) (z2:b=none→q=0)
  (hs:∀ (a b:Option Addr) (p q:Nat) (w:World),eY w w.heap.size a c.cells→(a=none→p=0)→eQ w w.heap.size b c.words→(b=none→q=0)→Calls Tryz.prog 267 #[.agg (af c (.slice a c.cells.length p) (.slice b c.words.length q)),.agg (aa h)] w fun r w'=>bV w w' x r) (hp:16≤h.pos∧h.pos≤22) :
  Calls Tryz.prog 158 #[.agg (af c (.slice a c.cells.length p) (.slice b c.words.length q)),.agg (aa h)] w fun r w'=>r=.returned (.bool (!x.2.2 && pR x.2.1 h))∧Below w.heap.size w w':=by
 have hT:=fun a b p q w h1 z1 h2 z2=>oU x c h a b p q w h1 z1 h2 z2 hs
 replace hs:=hT
 clear hT
 have H1:=Lib.hid h1
 have H2:=Lib.hid h2
 have Z1:=Lib.hid z1
 have Z2:=Lib.hid z2
 have HS:=Lib.hid hs
 clear h1 h2 z1 z2 hs
 go_enter Tryz.func158,Tryz.ntmps158
 go_wp2_with fail
 refine (F7 h.pos _ hp).mono ?_
 rintro _ _ ⟨rfl,rfl⟩
 have q1:=yj
 have q2:=yl
 have q3:=ym
 have q4:=FD
 go_wp2_with fail
 refine ax w zB fun bb=>?_
 refine (HS.out _ _ _ _ _ (aT H1 bb) Z1.out (aT H2 bb) Z2.out).mono ?_
 rintro _ w9 ⟨⟨y1,y2,rfl,aV,aX,dL,dI⟩,eG⟩
 have JG:Below w.heap.size w w9:=bT bb eG
 have jc:=eG.size;(try simp at jc);have zz:=Rq eG (b:=w.heap.size);(try simp [go_sem] at zz);replace bX:=zS zz;clear zz eG
 obtain ⟨ya,yp,rfl,_⟩:=aV.seg
 obtain ⟨yb,yq,rfl,_⟩:=aX.seg
 clear aV aX dL dI bb
 have ee:=oI x.2.1 h
 cases hx:x.2.2 with
 | true =>
  go_wp2
  go_ret
  exact ⟨by simp [hx],by exact zB⟩
 | false =>
  go_wp2
  go_ret
  exact ⟨by simp [hx],by exact zB⟩
theorem Ba (x:St) (c:Ch) (h:Ha) (a b:Option Addr) (p q:Nat) (w:World) (h1:eY w w.heap.size a c.cells) (z1:a=none→p=0) (h2:eQ w w.heap.size b c.words) (z2:b=none→q=0)
  (hs:∀ (a b:Option Addr) (p q:Nat) (w:World),eY w w.heap.size a c.cells→(a=none→p=0)→eQ w w.heap.size b c.words→(b=none→q=0)→Calls Tryz.prog 273 #[.agg (af c (.slice a c.cells.length p) (.slice b c.words.length q)),.agg (aa h)] w fun r w'=>bV w w' x r) (hp:23≤h.pos∧h.pos≤25) :
  Calls Tryz.prog 158 #[.agg (af c (.slice a c.cells.length p) (.slice b c.words.length q)),.agg (aa h)] w fun r w'=>r=.returned (.bool (!x.2.2 && pR x.2.1 h))∧Below w.heap.size w w':=by
 have hT:=fun a b p q w h1 z1 h2 z2=>oV x c h a b p q w h1 z1 h2 z2 hs
 replace hs:=hT
 clear hT
 have H1:=Lib.hid h1
 have H2:=Lib.hid h2
 have Z1:=Lib.hid z1
 have Z2:=Lib.hid z2
 have HS:=Lib.hid hs
 clear h1 h2 z1 z2 hs
 go_enter Tryz.func158,Tryz.ntmps158
 go_wp2_with fail
 refine (F9 h.pos _ hp).mono ?_
 rintro _ _ ⟨rfl,rfl⟩
 have q1:=yn
 have q2:=yo
 have q3:=yt
 have q4:=FH
 go_wp2_with fail
 refine ax w zB fun bb=>?_
 refine (HS.out _ _ _ _ _ (aT H1 bb) Z1.out (aT H2 bb) Z2.out).mono ?_
 rintro _ w9 ⟨⟨y1,y2,rfl,aV,aX,dL,dI⟩,eG⟩
 have JG:Below w.heap.size w w9:=bT bb eG
 have jc:=eG.size;(try simp at jc);have zz:=Rq eG (b:=w.heap.size);(try simp [go_sem] at zz);replace bX:=zS zz;clear zz eG
 obtain ⟨ya,yp,rfl,_⟩:=aV.seg
 obtain ⟨yb,yq,rfl,_⟩:=aX.seg
 clear aV aX dL dI bb
 have ee:=oI x.2.1 h
 cases hx:x.2.2 with
 | true =>
  go_wp2
  go_ret
  exact ⟨by simp [hx],by exact zB⟩
 | false =>
  go_wp2
  go_ret
  exact ⟨by simp [hx],by exact zB⟩
theorem Bb (c:Ch) (h:Ha) (a b:Option Addr) (p q:Nat) (w:World) (hp:h.pos≤0) :
  Calls Tryz.prog 158 #[.agg (af c (.slice a c.cells.length p) (.slice b c.words.length q)),.agg (aa h)] w fun r w'=>r=.returned (.bool false)∧Below w.heap.size w w':=by
 go_enter Tryz.func158,Tryz.ntmps158
 go_wp2_with fail
 refine (Fz h.pos _ hp).mono ?_
 rintro _ _ ⟨rfl,rfl⟩
 have q1:=ui
 have q2:=uj
 have q3:=uk
 go_wp2
 go_ret
 exact ⟨rfl,by exact zB⟩
theorem Bc (c:Ch) (h:Ha) (a b:Option Addr) (p q:Nat) (w:World) (hp:1≤h.pos∧h.pos≤8) :
  Calls Tryz.prog 158 #[.agg (af c (.slice a c.cells.length p) (.slice b c.words.length q)),.agg (aa h)] w fun r w'=>r=.returned (.bool false)∧Below w.heap.size w w':=by
 go_enter Tryz.func158,Tryz.ntmps158
 go_wp2_with fail
 refine (F5 h.pos _ hp).mono ?_
 rintro _ _ ⟨rfl,rfl⟩
 have q1:=yu
 have q2:=yw
 have q3:=yx
 go_wp2
 go_ret
 exact ⟨rfl,by exact zB⟩
theorem Bd (c:Ch) (h:Ha) (a b:Option Addr) (p q:Nat) (w:World) (hp:26≤h.pos) :
  Calls Tryz.prog 158 #[.agg (af c (.slice a c.cells.length p) (.slice b c.words.length q)),.agg (aa h)] w fun r w'=>r=.returned (.bool false)∧Below w.heap.size w w':=by
 go_enter Tryz.func158,Tryz.ntmps158
 go_wp2_with fail
 refine (FB h.pos _ hp).mono ?_
 rintro _ _ ⟨rfl,rfl⟩
 have q1:=ui
 have q2:=uj
 have q3:=uk
 go_wp2
 go_ret
 exact ⟨rfl,by exact zB⟩
end
section
open Go.RowKit
attribute [local go_sem ↓] aB aL aM aG au
attribute [local go_sem ↓] oI
theorem fT (x o:Int) (w:World):Calls Tryz.prog 48 #[.int .i64 x,.int .i64 o] w fun r w'=>r=.returned (.agg (aa (aP x o)))∧Below w.heap.size w w':=by
 go_enter Tryz.func48,Tryz.ntmps48
 go_wp2
 refine bodyPost_ret (ic Tryz.results48 rfl (aj (aP x o) (by simp [go_sem] <;> rfl))) rfl ⟨rfl,by exact zB⟩
theorem Be (k e:Int) (w:World):Calls Tryz.prog 104 #[.agg #[.int .i64 k,.int .i64 e]] w fun r w'=>r=.returned (.int .i64 (if k == 1 then 1 else 9))∧Below w.heap.size w w':=by
 go_enter Tryz.func104,Tryz.ntmps104
 go_wp2
 all_goals go_ret
 all_goals exact ⟨mX (by simp_all),by exact zB⟩
theorem JH {k e:Int} (h:dO k e=true):begun k e 0=⟨if k == 1 then 1 else 9,k,e,0,0,0,0,0,0,0,0,0,0,0⟩:=by
 have hk:k=1∨k=2:=by simp [dO] at h;omega
 rcases hk with rfl|rfl <;> rfl
theorem um (h:Ha) (k e:Int) (w:World):Calls Tryz.prog 52 #[.agg (aa h),.agg #[.int .i64 k,.int .i64 e]] w fun r w'=>r=.returned (.tuple #[.agg (aa (called h k e).1),.int .i64 (called h k e).2])∧Below w.heap.size w w':=by
 by_cases h0:bW h=true
 ·by_cases h1:h.pos=0
  ·by_cases h2:dO k e=true
   ·rw [show called h k e=(begun k e 0,0) by simp [called,h0,h1,h2]]
    rw [JH h2]
    have FA:=Be k e
    generalize (if k == 1 then (1:Int) else 9)=m at *
    have n1:(h.pos != 0)=false:=by simp [h1]
    clear h1
    go_enter Tryz.func52,Tryz.ntmps52
    go_wp2_with fail;refine ax w zB fun bb=>?_;refine (gV h _).mono ?_;rintro _ w1 ⟨rfl,ah⟩;obtain ⟨aW,ay,zz⟩:=Ct bb ah (b:=w.heap.size);(try simp at ay);(try simp [go_sem] at zz);replace bX:=Cs zz;clear zz ah bb
    rw [h0]
    go_wp2_with fail;refine ax w zB fun bb=>?_;refine (pU k e _).mono ?_;rintro _ w2 ⟨rfl,hbw2⟩;obtain ⟨dE,bu,zz⟩:=Ct bb hbw2 (b:=w.heap.size);(try simp at bu);(first|simp [go_sem,bX] at zz|simp [go_sem] at zz|skip);replace bX:=Cs zz;clear zz hbw2 bb
    rw [h2]
    go_wp2_with fail
    go_region_held3 (fun w'=>w'.cell? ⟨w.heap.size+1,0,none⟩=some (.int .i64 k)∧w'.cell? ⟨w.heap.size+1,1,none⟩=some (.int .i64 e))
     (first|(simp [*,go_sem]))
     (first|(go_at_call 104;refine ax w zB fun bb=>?_;refine (FA _).mono ?_;rintro _ w3 ⟨rfl,aO⟩;obtain ⟨ig,df,zz⟩:=Ct bb aO (b:=w.heap.size);(try simp at df);(first|simp [go_sem,bX] at zz|simp [go_sem] at zz|skip);replace bX:=Cs zz;clear zz aO bb))
    go_wp2
    exact bodyPost_ret (ja Tryz.results52 rfl (aj ⟨m,k,e,0,0,0,0,0,0,0,0,0,0,0⟩ tZ)) rfl ⟨rfl,by exact zB⟩
   ·have h2':dO k e=false:=by simpa using h2
    rw [show called h k e=(h,2) by simp [called,h0,h1,h2']]
    have n1:(h.pos != 0)=false:=by simp [h1]
    clear h1 h2
    go_enter Tryz.func52,Tryz.ntmps52
    go_wp2_with fail;refine ax w zB fun bb=>?_;refine (gV h _).mono ?_;rintro _ w1 ⟨rfl,ah⟩;obtain ⟨aW,ay,zz⟩:=Ct bb ah (b:=w.heap.size);(try simp at ay);(try simp [go_sem] at zz);replace bX:=Cs zz;clear zz ah bb
    rw [h0]
    go_wp2_with fail;refine ax w zB fun bb=>?_;refine (pU k e _).mono ?_;rintro _ w2 ⟨rfl,hbw2⟩;obtain ⟨dE,bu,zz⟩:=Ct bb hbw2 (b:=w.heap.size);(try simp at bu);(first|simp [go_sem,bX] at zz|simp [go_sem] at zz|skip);replace bX:=Cs zz;clear zz hbw2 bb
    rw [h2']
    go_wp2
    exact bodyPost_ret (ja Tryz.results52 rfl (aj h tY)) rfl ⟨rfl,by exact zB⟩
  ·rw [show called h k e=(h,1) by simp [called,h0,h1]]
   have n1:(h.pos != 0)=true:=by simpa using h1
   clear h1
   go_enter Tryz.func52,Tryz.ntmps52
   go_wp2_with fail;refine ax w zB fun bb=>?_;refine (gV h _).mono ?_;rintro _ w1 ⟨rfl,ah⟩;obtain ⟨aW,ay,zz⟩:=Ct bb ah (b:=w.heap.size);(try simp at ay);(try simp [go_sem] at zz);replace bX:=Cs zz;clear zz ah bb
   rw [h0]
   go_wp2
   exact bodyPost_ret (ja Tryz.results52 rfl (aj h tY)) rfl ⟨rfl,by exact zB⟩
 ·have h0':bW h=false:=by simpa using h0
  rw [show called h k e=(Ha.zero,3) by simp [called,h0']]
  clear h0
  go_enter Tryz.func52,Tryz.ntmps52
  go_wp2_with fail;refine ax w zB fun bb=>?_;refine (gV h _).mono ?_;rintro _ w1 ⟨rfl,ah⟩;obtain ⟨aW,ay,zz⟩:=Ct bb ah (b:=w.heap.size);(try simp at ay);(try simp [go_sem] at zz);replace bX:=Cs zz;clear zz ah bb
  rw [h0']
  go_wp2
  exact bodyPost_ret (ja Tryz.results52 rfl (aj Ha.zero tY)) rfl ⟨rfl,by exact zB⟩
end
section
open Go.RowKit
attribute [local simp] aC
attribute [local go_sem ↓] aB aU aL bB aM bC aG aN au aF
theorem fw (w:World) (lo:Nat) (v1 v2:Value):Calls Tryz.prog 233 #[] w fun r w'=>tN w w' lo v1 v2 nothing r∧Below w.heap.size w w':=by
 go_enter Tryz.func233,Tryz.ntmps233
 go_wp2
 refine rE Tryz.results233 rfl (az Ch.zero (.slice none 0 0) (.slice none 0 0) (by simp [go_sem])) rfl (aj Ha.zero (by simp [go_sem])) ⟨jX _ _ _ _ _,by exact zB⟩
theorem cZ (h:Ha) (k:Int) (w:World):Calls Tryz.prog 247 #[.agg (aa h),.int .i64 k] w fun r w'=>r=.returned (.agg (aa { h with pos:=k }))∧Below w.heap.size w w':=by
 go_enter Tryz.func247,Tryz.ntmps247
 go_wp2
 refine bodyPost_ret (ic Tryz.results247 rfl (aj { h with pos:=k } (by simp [go_sem] <;> rfl))) rfl ⟨rfl,by exact zB⟩
theorem Bf {k e:Int} (hc:dO k e=true):called (aP 0 0) k e=(begun k e 0,0):=by
 have h0:bW (aP 0 0)=true:=by decide
 have h1:(aP 0 0).pos=0:=rfl
 simp [called,h0,h1,hc]
theorem oq (h:Ha) (hc:dO h.code h.elem=true) (w:World):Calls Tryz.prog 250 #[.agg (aa h)] w fun r w'=>r=.returned (.agg (aa (anew h)))∧Below w.heap.size w w':=by
 have CC:=um (aP 0 0) h.code h.elem
 rw [Bf hc] at CC
 have e:{ begun h.code h.elem 0 with beg:=h.beg }=anew h:=rfl
 have E:=Lib.hid e
 clear e
 go_enter Tryz.func250,Tryz.ntmps250
 go_wp2_with fail
 go_region_held3 (fun w'=>hp w' w.heap.size=some (.cells (aa h) 49)∧w'.cell? ⟨w.heap.size,1,none⟩=some (.int .i64 h.code)∧w'.cell? ⟨w.heap.size,2,none⟩=some (.int .i64 h.elem))
  (first|(simp [*,go_sem]))
  (first|(go_at_call 48;refine (fT 0 0 _).mono ?_;rintro _ w1 ⟨rfl,ah⟩;have hBw1:Below w.heap.size w w1:=bT zB ah;have ay:=ah.size;(try (simp at ay));have zz:=hQ ah (b:=w.heap.size);(first|(simp [go_sem,dw,dJ] at zz)|(simp [go_sem] at zz));(try clear dV eD);(try clear dw);have dw:=zz;clear zz;(try clear dJ);obtain ⟨dV,eD,dJ⟩:=bO dw;have zz:=hQ ah (b:=w.heap.size+1);(first|(simp [go_sem,bz,bZ] at zz)|(simp [go_sem] at zz));(try clear di dz);(try clear bz);have bz:=zz;clear zz;(try clear bZ);obtain ⟨di,dz,bZ⟩:=bO bz;have MC:=nT ah (b:=w.heap.size+1+1);(try simp [go_sem] at MC);(try have V9:=(bO MC).2.2);have VA:w.heap.size<w1.heap.size:=tO;have ME:w.heap.size<w1.heap.size+1:=tO;have TA:w.heap.size+1<w1.heap.size:=tO;have FI:w.heap.size+1<w1.heap.size+1:=tO)|(go_at_call 52;refine (CC _).mono ?_;rintro _ w2 ⟨rfl,hbw2⟩;have hBw2:Below w.heap.size w w2:=bT zB hbw2;have bu:=hbw2.size;(try (simp at bu));have zz:=hQ hbw2 (b:=w.heap.size);(first|(simp [go_sem,dw,dJ,ME,FI] at zz)|(simp [go_sem,ME,FI] at zz));(try clear dV eD);(try clear dw);have dw:=zz;clear zz;(try clear dJ);obtain ⟨dV,eD,dJ⟩:=bO dw;have zz:=hQ hbw2 (b:=w.heap.size+1);(first|(simp [go_sem,bz,bZ,ME,FI] at zz)|(simp [go_sem,ME,FI] at zz));(try clear di dz);(try clear bz);have bz:=zz;clear zz;(try clear bZ);obtain ⟨di,dz,bZ⟩:=bO bz;(first|(have R8:=(bO MC).2.2;have Gy:=nT hbw2 (b:=w.heap.size+1+1);(simp [go_sem,MC,R8] at Gy))|(have Gy:=nT hbw2 (b:=w.heap.size+1+1);(try simp [go_sem] at Gy)));(try have VB:=(bO Gy).2.2);have MF:=nT hbw2 (b:=w1.heap.size);(try simp [go_sem] at MF);(try have VC:=(bO MF).2.2);have VD:w.heap.size<w2.heap.size:=tO;have VE:w.heap.size<w2.heap.size+1:=tO;have TB:w.heap.size+1<w2.heap.size:=tO;have TC:w.heap.size+1<w2.heap.size+1:=tO))
 all_goals (try (have y0:=(bO Gy).1;have g0:=(bO Gy).2.1))
 all_goals (try (have y1:=(bO MF).1;have g1:=(bO MF).2.1))
 all_goals go_wp2
 all_goals (refine bodyPost_ret (ic Tryz.results250 rfl (aj (anew h) tZ)) rfl ⟨rfl,by exact zB⟩)
theorem Bg (c:Ch) (h:Ha) (v1 v2:Value) (lo:Nat) (w:World) (h1:ag w lo v1 c.cells) (h2:ai w lo v2 c.words) :
  cu 242 c h v1 v2 lo w ((c,{ h with fin:=c.fin,pos:=5 },true)):=by
 obtain ⟨a1,q1,a2,q2,rfl,rfl,O1,O2,b1,b2⟩:=ql h1 h2
 clear h1 h2
 have o1:=O1.out
 have o2:=O2.out
 go_enter Tryz.func242,Tryz.ntmps242
 go_wp2_with fail
 go_region_held3 (fun w'=>hp w' w.heap.size=some (.cells (af c (.slice a1 c.cells.length q1) (.slice a2 c.words.length q2)) 31)∧hp w' (w.heap.size+1)=some (.cells (aa { h with fin:=c.fin }) 49))
  (first|(simp [*,go_sem]))
  (first|((go_at_call 247;refine ax w zB fun bb=>?_;refine (cZ _ _ _).mono ?_;rintro _ w1 ⟨rfl,ah⟩;obtain ⟨aW,ay,zz⟩:=dZ bb ah (b:=w.heap.size);(try simp at ay);(try simp [go_sem] at zz);replace bX:=dF zz;clear zz;have dG:=aW;clear ah bb);have p1:=own_below o1 dG;have p2:=own_below o2 dG))
 go_wp2
 refine rE Tryz.results242 rfl (az c (.slice a1 c.cells.length q1) (.slice a2 c.words.length q2) tZ) rfl (aj { h with fin:=c.fin,pos:=5 } tZ) ⟨⟨_,_,rfl,?_,?_,ak _ _,ak _ _⟩,dx zB⟩
 ·exact zO p1 o1
 ·exact zO p2 o2
theorem yz (c:Ch) (h:Ha) (v1 v2:Value) (lo:Nat) (w:World) (h1:ag w lo v1 c.cells) (h2:ai w lo v2 c.words) :
  cu 243 c h v1 v2 lo w ((c,{ h with come:=c.got,pos:=6 },true)):=by
 obtain ⟨a1,q1,a2,q2,rfl,rfl,O1,O2,b1,b2⟩:=ql h1 h2
 clear h1 h2
 have o1:=O1.out
 have o2:=O2.out
 go_enter Tryz.func243,Tryz.ntmps243
 go_wp2_with fail
 go_region_held3 (fun w'=>hp w' w.heap.size=some (.cells (af c (.slice a1 c.cells.length q1) (.slice a2 c.words.length q2)) 31)∧hp w' (w.heap.size+1)=some (.cells (aa { h with come:=c.got }) 49))
  (first|(simp [*,go_sem]))
  (first|((go_at_call 247;refine ax w zB fun bb=>?_;refine (cZ _ _ _).mono ?_;rintro _ w1 ⟨rfl,ah⟩;obtain ⟨aW,ay,zz⟩:=dZ bb ah (b:=w.heap.size);(try simp at ay);(try simp [go_sem] at zz);replace bX:=dF zz;clear zz;have dG:=aW;clear ah bb);have p1:=own_below o1 dG;have p2:=own_below o2 dG))
 go_wp2
 refine rE Tryz.results243 rfl (az c (.slice a1 c.cells.length q1) (.slice a2 c.words.length q2) tZ) rfl (aj { h with come:=c.got,pos:=6 } tZ) ⟨⟨_,_,rfl,?_,?_,ak _ _,ak _ _⟩,dx zB⟩
 ·exact zO p1 o1
 ·exact zO p2 o2
end
section
open Go.RowKit
theorem ou {w w':World} {row:Option Nat} (h:Below w.heap.size w w'):w.grownBy w' row:=⟨h.os,h.tape,h.output,h.size,fun i hi _=>h.block i hi⟩
theorem Ob {w w':World} {g:Nat} (h:Below w.heap.size w w') (o:Nat) (u:Value):w.grownBy (w'.setCell ⟨g,o,none⟩ u) (some g) :=
 ⟨h.os,h.tape,h.output,by simp [World.setCell];exact h.size,fun i hi hn=>by rw [Below.heap_setCell w' ⟨g,o,none⟩ u i (fun e=>hn (by rw [e]))];exact h.block i hi⟩
theorem Bh (c:Ch) (v x:Int) (g1 g2:Nat) (v2:Value) (lo:Nat) (w:World) (h:ai w lo v2 c.words) (c1:w.cell? ⟨g1,0,none⟩=some v2) (c2:w.cell? ⟨g2,0,none⟩=some (.int .i64 v)) (hm:c.words.length≤1099511627776) :
  Calls Tryz.prog 167 #[.int .i64 x,.pointer (some ⟨g1,0,none⟩),.pointer (some ⟨g2,0,none⟩)] w fun r w'=>r=.returned (.bool (fo c v x))∧ai w' lo v2 (dN c v x).words∧w.grownBy w' v2.ownBlock:=by
 have l1:=World.block_lt_of_cell? w _ c1
 have l2:=World.block_lt_of_cell? w _ c2
 simp only at l1 l2
 by_cases hh:kF c v=true
 ·obtain ⟨a1,a2⟩:=nY.1 hh
  obtain ⟨i,rfl⟩:∃ i:Nat,v=(i:Int)+1:=⟨(v - 1).toNat,by omega⟩
  have hi:i<c.words.length:=by omega
  obtain ⟨g,cap,rfl,hlo,hlt,hcell,hfr⟩:=h.open1 hi
  have e:eF c ((i:Int)+1)=c.words.getD i 0:=by simp [eF]
  have HE:=Lib.hid e
  have HO:=Lib.hid h
  clear e h
  generalize c.words.getD i 0=y at hcell HE
  have hi0:(0:Int)≤(i:Int):=by omega
  have hi1:(i:Int)<(c.words.length:Int):=by omega
  go_enter Tryz.func167,Tryz.ntmps167
  go_wp2_with fail
  refine (lq c _ _ cap _).mono ?_
  rintro _ w1 ⟨rfl,hb1⟩
  have d1:=(hb1.cell (p:=⟨g1,0,none⟩) l1).trans c1
  have d2:=(hb1.cell (p:=⟨g2,0,none⟩) l2).trans c2
  have d3:=(hb1.cell (p:=⟨g,i,none⟩) hlt).trans hcell
  have d4:=fun o=>(hb1.frozen (p:=⟨g,o,none⟩) hlt).trans (hfr o)
  have o1:=own_below HO.out hb1
  by_cases ht:fo c ((i:Int)+1) x=true
  ·have ht2:=ht
   unfold fo at ht2
   rw [HE.out] at ht2
   simp [hh] at ht2
   obtain ⟨rfl,hin⟩:=ht2
   have HW:Hid ((dN c ((i:Int)+1) x).words=c.words.set i x):=by unfold dN;rw [if_pos ht];simp [Hid]
   have HT:=Lib.hid ht
   have hx:x=1∨x=2:=by simp [dm] at hin;omega
   have hx2:(x != 1 && x != 2)=false:=by rcases hx with rfl|rfl <;> rfl
   clear ht HE hin
   rcases hx with rfl|rfl
   all_goals go_wp2
   all_goals go_ret
   all_goals exact ⟨bF (by rw [HT.out]),by rw [HW.out];exact ai.set o1 hi _,Ob hb1 _ _⟩
  ·have e1:fo c ((i:Int)+1) x=false:=by simpa using ht
   have HT:=Lib.hid e1
   have HW:=Lib.hid (nZ e1)
   unfold fo at e1
   rw [HE.out] at e1
   simp [hh] at e1
   clear HE ht
   by_cases hy:y=0
   ·subst hy
    have hin:=e1 rfl
    have hx1:(x != 1)=true:=by simp [dm] at hin;simp;omega
    have hx2:(x != 2)=true:=by simp [dm] at hin;simp;omega
    clear e1 hin
    go_wp2
    go_ret
    exact ⟨bF (by rw [HT.out]),by rw [HW.out];exact o1,ou hb1⟩
   ·have hy2:(y != 0)=true:=by simpa using hy
    clear e1 hy
    go_wp2
    go_ret
    exact ⟨bF (by rw [HT.out]),by rw [HW.out];exact o1,ou hb1⟩
 ·have e1:=xm (x:=x) (by simpa using hh)
  have HT:=Lib.hid e1
  have HW:=Lib.hid (nZ e1)
  clear e1
  have HO:=Lib.hid h
  obtain ⟨a2,q2,rfl,_⟩:=h.seg
  clear h
  go_enter Tryz.func167,Tryz.ntmps167
  go_wp2_with fail
  refine (lq c _ _ q2 _).mono ?_
  rintro _ w1 ⟨rfl,hb1⟩
  have o1:=own_below HO.out hb1
  go_wp2
  go_ret
  exact ⟨bF (by rw [HT.out]),by rw [HW.out];exact o1,ou hb1⟩
def told (c:Ch) (v x:Int):Ch:=if aK c then dN c v x else Ch.zero
def Bi (c:Ch) (v x:Int):Bool:=aK c && fo c v x
def nQ (c:Ch):Ch:=if aK c then (if 80≤c.words.length then c else { c with words:=c.words ++ [0] }) else Ch.zero
def uo (c:Ch):Int:=if aK c then (if 80≤c.words.length then 0 else c.words.length+1) else 0
theorem MG {c:Ch} {v x:Int} (h:aK c=false):told c v x=Ch.zero∧Bi c v x=false:=by simp [told,Bi,h]
theorem Bj {c:Ch} {v x:Int} (h:aK c=true):told c v x=dN c v x∧Bi c v x=fo c v x:=by simp [told,Bi,h]
theorem ma (c:Ch) (v x:Int):(dN c v x).cells=c.cells∧(dN c v x).cap=c.cap∧(dN c v x).sent=c.sent∧(dN c v x).got=c.got∧(dN c v x).fin=c.fin:=by unfold dN;split <;> simp
end
end Go.Proofs.YtffhjmepfojhnaaGreat
