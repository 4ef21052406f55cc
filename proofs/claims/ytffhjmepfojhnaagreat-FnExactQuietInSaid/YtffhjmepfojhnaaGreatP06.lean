/-
  What the program's steps of chapters 7 and 8 compute where the document has a cell's Waiter stay, as plain functions; no condition.
-/
import Derived.Test.YtffhjmepfojhnaaGreatP05
import Derived.Test.YtffhjmepfojhnaaGreatP02
import Derived.Laws.StructEq
import Derived.Deep.RegionHeld3
import Derived.Deep.DeepCutAuto
import Derived.Test.YtffhjmepfojhnaaGreatP01
set_option maxRecDepth 100000
set_option maxHeartbeats 4000000
set_option linter.unusedSimpArgs false
set_option linter.unusedVariables false
namespace Go.Proofs.YtffhjmepfojhnaaGreat
section
def mJ (c:Ch) (h:Ha):St:=if h.seen == 3 then gL c h 5 (cellAt c h.cell).t { h with pos:=13 } else fu c h
def dB (c:Ch) (h:Ha):St:=if aX c h 9 15 2 && h.pos == 12 then mJ c h else aP c h
def kT (c:Ch) (h:Ha):St:=if h.seen == 3 then jH c h 6 (cellAt c h.grow).t { h with pos:=20 } else fK c h
def cZ (c:Ch) (h:Ha):St:=if aX c h 16 22 2 && h.pos == 19 then kT c h else aY c h
def nJ (c:Ch) (h:Ha):St :=
 if dL h.pos 1 8 then bK c h else if dL h.pos 9 15 then dB c h else if dL h.pos 16 22 then cZ c h else bC c h
def qA (c:Ch) (st wt:Int) (y z:Ha):St:=if bn c y.cell y.seen st wt then (bf c y.cell y.seen st wt,y,true) else (c,z,true)
end
section
def eH (s:St):Bool:=!s.2.2 && decide (0<s.1.cells.length)
theorem rq (c:Ch) (h:Ha):eH (done c h)=false:=by
 unfold eH done
 split <;> simp [nothing,Ch.zero]
theorem nK:eH nothing=false:=by simp [eH,nothing,Ch.zero]
theorem qg (c:Ch) (h:Ha) (a b:Int) (y:Ha):eH (gL c h a b y)=false:=by
 unfold gL
 split <;> exact rq _ _
theorem qh (c:Ch) (h:Ha) (a b:Int) (y:Ha):eH (jH c h a b y)=false:=by
 unfold jH
 split <;> exact rq _ _
theorem yE (c:Ch) (h:Ha) (e:h.seen=3):eH (fu c h)=false:=by
 have e2:(h.seen == 2)=false:=by simp [e]
 have e3:(h.seen == 3)=true:=by simp [e]
 unfold fu
 rw [e2,e3]
 exact qg _ _ _ _ _
theorem yF (c:Ch) (h:Ha) (e:h.seen=3):eH (fK c h)=false:=by
 have e3:(h.seen == 3)=true:=by simp [e]
 unfold fK
 rw [e3]
 exact qh _ _ _ _ _
theorem yG (c:Ch) (h:Ha):eH (mJ c h)=eH (fu c h):=by
 unfold mJ
 split
 ·rename_i e
  rw [yE c h (by simpa using e),qg]
 ·rfl
theorem yH (c:Ch) (h:Ha):eH (kT c h)=eH (fK c h):=by
 unfold kT
 split
 ·rename_i e
  rw [yF c h (by simpa using e),qh]
 ·rfl
theorem yI (c:Ch) (h:Ha):eH (dB c h)=eH (aP c h):=by
 unfold dB
 split
 ·rename_i e
  rw [Bool.and_eq_true] at e
  have p:h.pos=12:=by simpa using e.2
  rw [yG]
  unfold aP
  rw [if_pos e.1]
  simp [p]
 ·rfl
theorem yJ (c:Ch) (h:Ha):eH (cZ c h)=eH (aY c h):=by
 unfold cZ
 split
 ·rename_i e
  rw [Bool.and_eq_true] at e
  have p:h.pos=19:=by simpa using e.2
  rw [yH]
  unfold aY
  rw [if_pos e.1]
  simp [p]
 ·rfl
theorem JZ (c:Ch) (h:Ha):eH (nJ c h)=eH (gM c h):=by
 unfold nJ gM
 split
 ·rfl
 ·split
  ·exact yI c h
  ·split
   ·exact yJ c h
   ·rfl
end
section
open Go.RowKit
def nZ (a b:Ha):Bool:=a.pos == b.pos && ((a.code == b.code && a.elem == b.elem) && (a.cell == b.cell && (a.seen == b.seen && (a.wait == b.wait && (a.fin == b.fin && (a.come == b.come && (a.grow == b.grow && (a.mine == b.mine && (a.nxt == b.nxt && (a.beg == b.beg && (a.reply == b.reply && a.out == b.out)))))))))))
theorem yK (a b:Ha):nZ a b=true↔a=b:=by
 obtain ⟨a1,a2,a3,a4,a5,a6,a7,a8,a9,QK,QL,a12,QM,QN⟩:=a
 obtain ⟨b1,b2,b3,b4,b5,b6,b7,b8,b9,b10,b11,b12,b13,b14⟩:=b
 simp [nZ,and_assoc]
theorem EI (a:Ha):nZ a a=true:=(yK a a).2 rfl
theorem Ka (a b c d:Int) (n:Nat) (w:World):(Op.equalIn (n+1+1) 41 (.agg #[.int .i64 a,.int .i64 b]) (.agg #[.int .i64 c,.int .i64 d])).run Tryz.prog w=.ok (a == c && b == d) w:=by
 have u3:=Tryz.underlying2
 have a3:=Tryz.isAgg2
 have z3:=Tryz.sizeOf2
 have hS:Tryz.prog.underlying 41=some (.struct (Tryz.prog.fieldsOf 41)):=by kernel_rfl
 rw [run_equalIn_agg w (n+1) 41 _ _ hS (by kernel_rfl)]
 simp only [Program.fieldsOf,Tryz.underlying41]
 go_simp
 by_cases h1:a=c <;> by_cases h2:b=d <;> simp [h1,h2]
theorem nE (x y:Ha) (w:World):(Op.equalIn 10000 49 (.agg (aa x)) (.agg (aa y))).run Tryz.prog w=.ok (nZ x y) w:=by
 have u3:=Tryz.underlying2
 have a3:=Tryz.isAgg2
 have z3:=Tryz.sizeOf2
 have a4:=Tryz.isAgg41
 have z4:=Tryz.sizeOf41
 have hS:Tryz.prog.underlying 49=some (.struct (Tryz.prog.fieldsOf 49)):=by kernel_rfl
 rw [show (10000:Nat)=9998+1+1 from rfl,run_equalIn_agg w (9998+1) 49 _ _ hS (by kernel_rfl)]
 simp only [Program.fieldsOf,Tryz.underlying49]
 simp [aa,Op.eqFields,go_sem,Ka,nZ, *]
 by_cases h0:x.pos=y.pos <;> simp [h0]
 by_cases h1:x.code=y.code <;> simp [h1]
 by_cases h2:x.elem=y.elem <;> simp [h2]
 by_cases h3:x.cell=y.cell <;> simp [h3]
 by_cases h4:x.seen=y.seen <;> simp [h4]
 by_cases h5:x.wait=y.wait <;> simp [h5]
 by_cases h6:x.fin=y.fin <;> simp [h6]
 by_cases h7:x.come=y.come <;> simp [h7]
 by_cases h8:x.grow=y.grow <;> simp [h8]
 by_cases h9:x.mine=y.mine <;> simp [h9]
 by_cases h10:x.nxt=y.nxt <;> simp [h10]
 by_cases h11:x.beg=y.beg <;> simp [h11]
 by_cases h12:x.reply=y.reply <;> simp [h12]
 by_cases MJ:x.out=y.out <;> simp [MJ]
end
section
open Go.RowKit
attribute [local simp] aI
attribute [local go_sem ↓] aH aU aM bz aN bB aA aK ax aB
theorem jg (c:Ch) (h:Ha):done c h=nothing∨(done c h).2.2=true:=by
 unfold done
 split
 ·exact .inr rfl
 ·exact .inl rfl
theorem ru (c:Ch) (h:Ha) (a b:Int) (y:Ha):gL c h a b y=nothing∨(gL c h a b y).2.2=true:=by
 unfold gL
 split <;> exact jg _ _
theorem ry (c:Ch) (h:Ha) (a b:Int) (y:Ha):jH c h a b y=nothing∨(jH c h a b y).2.2=true:=by
 unfold jH
 split <;> exact jg _ _
theorem rz (c:Ch) (h:Ha):fu c h=nothing∨(fu c h).2.2=true:=by
 unfold fu
 repeat' split
 all_goals first|exact ru _ _ _ _ _|exact jg _ _|exact .inl rfl
theorem r9 (c:Ch) (h:Ha):fK c h=nothing∨(fK c h).2.2=true:=by
 unfold fK
 repeat' split
 all_goals first|exact ry _ _ _ _ _|exact .inl rfl
theorem yL (c:Ch) (h:Ha):mJ c h=nothing∨(mJ c h).2.2=true:=by
 unfold mJ
 split
 ·exact ru _ _ _ _ _
 ·exact rz c h
theorem yM (c:Ch) (h:Ha):kT c h=nothing∨(kT c h).2.2=true:=by
 unfold kT
 split
 ·exact ry _ _ _ _ _
 ·exact r9 c h
def Ea (c:Ch) (h:Ha) (x:St):Prop:=(x=nothing∨x.2.2=true)∨(aG c=true∧x=(c,h,false))
theorem BF (c:Ch) (h:Ha):Ea c h (dB c h):=by
 unfold dB
 split
 ·exact .inl (yL c h)
 ·unfold aP
  split
  ·rename_i e
   have hc:aG c=true:=(bu e).1
   unfold vC vD vE
   repeat' split
   all_goals first|exact .inl (jg _ _)|exact .inl (rz _ _)|exact .inl (.inl rfl)|exact .inr ⟨hc,rfl⟩
  ·exact .inl (.inl rfl)
theorem BG (c:Ch) (h:Ha):Ea c h (cZ c h):=by
 unfold cZ
 split
 ·exact .inl (yM c h)
 ·unfold aY
  split
  ·rename_i e
   have hc:aG c=true:=(bu e).1
   unfold kg pE
   repeat' split
   all_goals first|exact .inl (jg _ _)|exact .inl (r9 _ _)|exact .inl (.inl rfl)|exact .inr ⟨hc,rfl⟩
  ·exact .inl (.inl rfl)
theorem BH (c:Ch) (h:Ha):Ea c h (bC c h):=by
 unfold bC
 split
 ·rename_i e
  have hc:aG c=true:=(bu (Bool.and_eq_true_iff.1 e).1).1
  unfold iJ
  repeat' split
  all_goals first|exact .inl (jg _ _)|exact .inl (.inl rfl)|exact .inr ⟨hc,rfl⟩
 ·exact .inl (.inl rfl)
theorem mK (c:Ch) (h:Ha) (x:St) (hp:h.pos≠0) (hw:Ea c h x):(!x.2.2 && nZ x.2.1 h)=eH x:=by
 rcases hw with (rfl|e)|⟨hc,rfl⟩
 ·have:nZ nothing.2.1 h=false:=by
   cases he:nZ nothing.2.1 h with
   | false=>rfl
   | true=>rw [yK] at he;rw [← he] at hp;exact absurd rfl hp
  rw [this,nK]
  rfl
 ·simp [e,eH]
 ·have:=(dM hc).1
  simp [EI,eH,this]
theorem BI (c:Ch) (h:Ha):bK c h=nothing∨(bK c h).2.2=true:=by
 unfold bK DR Gq DT iE
 repeat' split
 all_goals first|exact jg _ _|exact .inl rfl
theorem pF (c:Ch) (h:Ha) (hp:h.pos≤8∨26≤h.pos):eH (nJ c h)=false:=by
 have key:∀ x:St,(x=nothing∨x.2.2=true)→eH x=false:=by
  rintro x (rfl|e)
  ·exact nK
  ·simp [eH,e]
 unfold nJ
 rw [show dL h.pos 9 15=false by simp [dL];omega,show dL h.pos 16 22=false by simp [dL];omega]
 simp only [Bool.false_eq_true,if_false]
 split
 ·exact key _ (BI c h)
 ·rename_i e
  refine key _ (.inl ?_)
  have e2:dL h.pos 23 25=false:=by
   simp [dL] at e ⊢
   omega
  simp [bC,aX,e2]
theorem tQ (x:St) (c:Ch) (h:Ha) (a b:Option Addr) (p q:Nat) (w:World) (h1:eY w w.heap.size a c.cells) (z1:a=none→p=0) (h2:eZ w w.heap.size b c.words) (z2:b=none→q=0)
  (hs:∀ (a b:Option Addr) (p q:Nat) (w:World),eY w w.heap.size a c.cells→(a=none→p=0)→eZ w w.heap.size b c.words→(b=none→q=0)→Calls Tryz.prog 259 #[.agg (af c (.slice a c.cells.length p) (.slice b c.words.length q)),.agg (aa h)] w fun r w'=>bQ w w' x r) :
  Calls Tryz.prog 258 #[.agg #[],.agg (af c (.slice a c.cells.length p) (.slice b c.words.length q)),.agg (aa h)] w fun r w'=>bQ w w' x r:=by
 have H1:=Lib.hid h1
 have H2:=Lib.hid h2
 have Z1:=Lib.hid z1
 have Z2:=Lib.hid z2
 have HS:=Lib.hid hs
 clear h1 h2 z1 z2 hs
 have d1:∀ j,(Value.slice none 0 0).ownBlock=some j→w.heap.size+1+1+1+1+1≤j:=fun j hj=>by cases hj
 have d2:=d1
 go_enter Tryz.func258,Tryz.ntmps258
 go_wp2_with fail;refine au w zB fun bb=>?_;refine (HS.out _ _ _ _ _ (aT H1 bb) Z1.out (aT H2 bb) Z2.out).mono ?_;rintro _ w9 ⟨⟨y1,y2,rfl,aO,aQ,dH,dF⟩,eX⟩;obtain ⟨tT,jd,zz⟩:=vX bb eX (b:=w.heap.size);(try simp at jd);(try simp [go_sem] at zz);replace bX:=jb zz;clear zz eX bb
 replace aO:ah w9 w.heap.size y1 x.1.cells:=ay aO (by simp;omega)
 replace aQ:ai w9 w.heap.size y2 x.1.words:=ay aQ (by simp;omega)
 obtain ⟨⟨aD,aF⟩,dQ,dR⟩:=kH (w:=w) (w.heap.size+1+1+1+1+1) dH dF d1 d2;obtain ⟨ya,yp,rfl,_⟩:=aO.seg;obtain ⟨yb,yq,rfl,_⟩:=aQ.seg
 go_wp2
 refine rE Tryz.results258 rfl (az x.1 (.slice ya x.1.cells.length yp) (.slice yb x.1.words.length yq) tY) rfl (aj x.2.1 tY) ⟨⟨_,_,rfl,?_,?_,dQ,dR⟩,by exact zB⟩
 ·exact zP aO aO aD
 ·exact zP aQ aQ aF
theorem tV (x:St) (c:Ch) (h:Ha) (a b:Option Addr) (p q:Nat) (w:World) (h1:eY w w.heap.size a c.cells) (z1:a=none→p=0) (h2:eZ w w.heap.size b c.words) (z2:b=none→q=0)
  (hs:∀ (a b:Option Addr) (p q:Nat) (w:World),eY w w.heap.size a c.cells→(a=none→p=0)→eZ w w.heap.size b c.words→(b=none→q=0)→Calls Tryz.prog 267 #[.agg (af c (.slice a c.cells.length p) (.slice b c.words.length q)),.agg (aa h)] w fun r w'=>bQ w w' x r) :
  Calls Tryz.prog 266 #[.agg #[],.agg (af c (.slice a c.cells.length p) (.slice b c.words.length q)),.agg (aa h)] w fun r w'=>bQ w w' x r:=by
 have H1:=Lib.hid h1
 have H2:=Lib.hid h2
 have Z1:=Lib.hid z1
 have Z2:=Lib.hid z2
 have HS:=Lib.hid hs
 clear h1 h2 z1 z2 hs
 have d1:∀ j,(Value.slice none 0 0).ownBlock=some j→w.heap.size+1+1+1+1+1≤j:=fun j hj=>by cases hj
 have d2:=d1
 go_enter Tryz.func266,Tryz.ntmps266
 go_wp2_with fail;refine au w zB fun bb=>?_;refine (HS.out _ _ _ _ _ (aT H1 bb) Z1.out (aT H2 bb) Z2.out).mono ?_;rintro _ w9 ⟨⟨y1,y2,rfl,aO,aQ,dH,dF⟩,eX⟩;obtain ⟨tT,jd,zz⟩:=vX bb eX (b:=w.heap.size);(try simp at jd);(try simp [go_sem] at zz);replace bX:=jb zz;clear zz eX bb
 replace aO:ah w9 w.heap.size y1 x.1.cells:=ay aO (by simp;omega)
 replace aQ:ai w9 w.heap.size y2 x.1.words:=ay aQ (by simp;omega)
 obtain ⟨⟨aD,aF⟩,dQ,dR⟩:=kH (w:=w) (w.heap.size+1+1+1+1+1) dH dF d1 d2;obtain ⟨ya,yp,rfl,_⟩:=aO.seg;obtain ⟨yb,yq,rfl,_⟩:=aQ.seg
 go_wp2
 refine rE Tryz.results266 rfl (az x.1 (.slice ya x.1.cells.length yp) (.slice yb x.1.words.length yq) tY) rfl (aj x.2.1 tY) ⟨⟨_,_,rfl,?_,?_,dQ,dR⟩,by exact zB⟩
 ·exact zP aO aO aD
 ·exact zP aQ aQ aF
theorem tX (x:St) (c:Ch) (h:Ha) (a b:Option Addr) (p q:Nat) (w:World) (h1:eY w w.heap.size a c.cells) (z1:a=none→p=0) (h2:eZ w w.heap.size b c.words) (z2:b=none→q=0)
  (hs:∀ (a b:Option Addr) (p q:Nat) (w:World),eY w w.heap.size a c.cells→(a=none→p=0)→eZ w w.heap.size b c.words→(b=none→q=0)→Calls Tryz.prog 273 #[.agg (af c (.slice a c.cells.length p) (.slice b c.words.length q)),.agg (aa h)] w fun r w'=>bQ w w' x r) :
  Calls Tryz.prog 272 #[.agg #[],.agg (af c (.slice a c.cells.length p) (.slice b c.words.length q)),.agg (aa h)] w fun r w'=>bQ w w' x r:=by
 have H1:=Lib.hid h1
 have H2:=Lib.hid h2
 have Z1:=Lib.hid z1
 have Z2:=Lib.hid z2
 have HS:=Lib.hid hs
 clear h1 h2 z1 z2 hs
 have d1:∀ j,(Value.slice none 0 0).ownBlock=some j→w.heap.size+1+1+1+1+1≤j:=fun j hj=>by cases hj
 have d2:=d1
 go_enter Tryz.func272,Tryz.ntmps272
 go_wp2_with fail;refine au w zB fun bb=>?_;refine (HS.out _ _ _ _ _ (aT H1 bb) Z1.out (aT H2 bb) Z2.out).mono ?_;rintro _ w9 ⟨⟨y1,y2,rfl,aO,aQ,dH,dF⟩,eX⟩;obtain ⟨tT,jd,zz⟩:=vX bb eX (b:=w.heap.size);(try simp at jd);(try simp [go_sem] at zz);replace bX:=jb zz;clear zz eX bb
 replace aO:ah w9 w.heap.size y1 x.1.cells:=ay aO (by simp;omega)
 replace aQ:ai w9 w.heap.size y2 x.1.words:=ay aQ (by simp;omega)
 obtain ⟨⟨aD,aF⟩,dQ,dR⟩:=kH (w:=w) (w.heap.size+1+1+1+1+1) dH dF d1 d2;obtain ⟨ya,yp,rfl,_⟩:=aO.seg;obtain ⟨yb,yq,rfl,_⟩:=aQ.seg
 go_wp2
 refine rE Tryz.results272 rfl (az x.1 (.slice ya x.1.cells.length yp) (.slice yb x.1.words.length yq) tY) rfl (aj x.2.1 tY) ⟨⟨_,_,rfl,?_,?_,dQ,dR⟩,by exact zB⟩
 ·exact zP aO aO aD
 ·exact zP aQ aQ aF
theorem Kb (n:Int) (w:World) (h:n≤0):Calls Tryz.prog 157 #[.int .i64 n] w fun r w'=>r=.returned (.iface 200 (.agg #[]))∧w'=w:=by
 go_enter Tryz.func157,Tryz.ntmps157
 go_wp2
 all_goals first|(exfalso;omega)|(go_ret;exact ⟨rfl,rfl⟩)
theorem Kc (n:Int) (w:World) (h:1≤n∧n≤8):Calls Tryz.prog 157 #[.int .i64 n] w fun r w'=>r=.returned (.iface 201 (.agg #[]))∧w'=w:=by
 go_enter Tryz.func157,Tryz.ntmps157
 go_wp2
 all_goals first|(exfalso;omega)|(go_ret;exact ⟨rfl,rfl⟩)
theorem Ke (n:Int) (w:World) (h:9≤n∧n≤15):Calls Tryz.prog 157 #[.int .i64 n] w fun r w'=>r=.returned (.iface 202 (.agg #[]))∧w'=w:=by
 go_enter Tryz.func157,Tryz.ntmps157
 go_wp2
 all_goals first|(exfalso;omega)|(go_ret;exact ⟨rfl,rfl⟩)
theorem Kg (n:Int) (w:World) (h:16≤n∧n≤22):Calls Tryz.prog 157 #[.int .i64 n] w fun r w'=>r=.returned (.iface 203 (.agg #[]))∧w'=w:=by
 go_enter Tryz.func157,Tryz.ntmps157
 go_wp2
 all_goals first|(exfalso;omega)|(go_ret;exact ⟨rfl,rfl⟩)
theorem Kh (n:Int) (w:World) (h:23≤n∧n≤25):Calls Tryz.prog 157 #[.int .i64 n] w fun r w'=>r=.returned (.iface 204 (.agg #[]))∧w'=w:=by
 go_enter Tryz.func157,Tryz.ntmps157
 go_wp2
 all_goals first|(exfalso;omega)|(go_ret;exact ⟨rfl,rfl⟩)
theorem Ki (n:Int) (w:World) (h:26≤n):Calls Tryz.prog 157 #[.int .i64 n] w fun r w'=>r=.returned (.iface 200 (.agg #[]))∧w'=w:=by
 go_enter Tryz.func157,Tryz.ntmps157
 go_wp2
 all_goals first|(exfalso;omega)|(go_ret;exact ⟨rfl,rfl⟩)
theorem wm (w:World):(Instr.typeAssert (.iface 202 (.agg #[])) 186 202 true).run Tryz.prog w=.ok (.tuple #[.agg #[],.bool true]) w:=by kernel_rfl
theorem wo (w:World):(Instr.typeAssert (.iface 202 (.agg #[])) 186 203 true).run Tryz.prog w=.ok (.tuple #[.agg #[],.bool false]) w:=by kernel_rfl
theorem wu (w:World):(Instr.typeAssert (.iface 202 (.agg #[])) 186 204 true).run Tryz.prog w=.ok (.tuple #[.agg #[],.bool false]) w:=by kernel_rfl
theorem wz (w:World):(Instr.typeAssert (.iface 203 (.agg #[])) 186 202 true).run Tryz.prog w=.ok (.tuple #[.agg #[],.bool false]) w:=by kernel_rfl
theorem wB (w:World):(Instr.typeAssert (.iface 203 (.agg #[])) 186 203 true).run Tryz.prog w=.ok (.tuple #[.agg #[],.bool true]) w:=by kernel_rfl
theorem wC (w:World):(Instr.typeAssert (.iface 203 (.agg #[])) 186 204 true).run Tryz.prog w=.ok (.tuple #[.agg #[],.bool false]) w:=by kernel_rfl
theorem wD (w:World):(Instr.typeAssert (.iface 204 (.agg #[])) 186 202 true).run Tryz.prog w=.ok (.tuple #[.agg #[],.bool false]) w:=by kernel_rfl
theorem wE (w:World):(Instr.typeAssert (.iface 204 (.agg #[])) 186 203 true).run Tryz.prog w=.ok (.tuple #[.agg #[],.bool false]) w:=by kernel_rfl
theorem wF (w:World):(Instr.typeAssert (.iface 204 (.agg #[])) 186 204 true).run Tryz.prog w=.ok (.tuple #[.agg #[],.bool true]) w:=by kernel_rfl
theorem wG (w:World):(Instr.typeAssert (.iface 201 (.agg #[])) 186 202 true).run Tryz.prog w=.ok (.tuple #[.agg #[],.bool false]) w:=by kernel_rfl
theorem wH (w:World):(Instr.typeAssert (.iface 201 (.agg #[])) 186 203 true).run Tryz.prog w=.ok (.tuple #[.agg #[],.bool false]) w:=by kernel_rfl
theorem wI (w:World):(Instr.typeAssert (.iface 201 (.agg #[])) 186 204 true).run Tryz.prog w=.ok (.tuple #[.agg #[],.bool false]) w:=by kernel_rfl
theorem rA (w:World):(Instr.typeAssert (.iface 200 (.agg #[])) 186 202 true).run Tryz.prog w=.ok (.tuple #[.agg #[],.bool false]) w:=by kernel_rfl
theorem rC (w:World):(Instr.typeAssert (.iface 200 (.agg #[])) 186 203 true).run Tryz.prog w=.ok (.tuple #[.agg #[],.bool false]) w:=by kernel_rfl
theorem rD (w:World):(Instr.typeAssert (.iface 200 (.agg #[])) 186 204 true).run Tryz.prog w=.ok (.tuple #[.agg #[],.bool false]) w:=by kernel_rfl
theorem Kj (n : Nat) (w : World) : (method (n + 1) 202 (.agg #[]) "loop.example/g00794/impl.step").run Tryz.prog w = .ok (258, .agg #[]) w := by kernel_rfl
theorem Kk (n : Nat) (w : World) : (method (n + 1) 203 (.agg #[]) "loop.example/g00794/impl.step").run Tryz.prog w = .ok (266, .agg #[]) w := by kernel_rfl
theorem Kl (n : Nat) (w : World) : (method (n + 1) 204 (.agg #[]) "loop.example/g00794/impl.step").run Tryz.prog w = .ok (272, .agg #[]) w := by kernel_rfl
theorem yN (x:St) (c:Ch) (h:Ha) (a b:Option Addr) (p q:Nat) (w:World) (h1:eY w w.heap.size a c.cells) (z1:a=none→p=0) (h2:eZ w w.heap.size b c.words) (z2:b=none→q=0)
  (hs:∀ (a b:Option Addr) (p q:Nat) (w:World),eY w w.heap.size a c.cells→(a=none→p=0)→eZ w w.heap.size b c.words→(b=none→q=0)→Calls Tryz.prog 259 #[.agg (af c (.slice a c.cells.length p) (.slice b c.words.length q)),.agg (aa h)] w fun r w'=>bQ w w' x r) (hp:9≤h.pos∧h.pos≤15) :
  Calls Tryz.prog 158 #[.agg (af c (.slice a c.cells.length p) (.slice b c.words.length q)),.agg (aa h)] w fun r w'=>r=.returned (.bool (!x.2.2 && nZ x.2.1 h))∧Below w.heap.size w w':=by
 have hT:=fun a b p q w h1 z1 h2 z2=>tQ x c h a b p q w h1 z1 h2 z2 hs
 replace hs:=hT
 clear hT
 have H1:=Lib.hid h1
 have H2:=Lib.hid h2
 have Z1:=Lib.hid z1
 have Z2:=Lib.hid z2
 have HS:=Lib.hid hs
 clear h1 h2 z1 z2 hs
 go_enter Tryz.func158,Tryz.ntmps158
 go_wp2_with fail
 refine (Ke h.pos _ hp).mono ?_
 rintro _ _ ⟨rfl,rfl⟩
 have q1:=wm
 have q2:=wo
 have q3:=wu
 have q4:=Kj
 go_wp2_with fail
 refine au w zB fun bb=>?_
 refine (HS.out _ _ _ _ _ (aT H1 bb) Z1.out (aT H2 bb) Z2.out).mono ?_
 rintro _ w9 ⟨⟨y1,y2,rfl,aO,aQ,dH,dF⟩,eX⟩
 have LQ:Below w.heap.size w w9:=bT bb eX
 have jd:=eX.size;(try simp at jd);have zz:=O8 eX (b:=w.heap.size);(try simp [go_sem] at zz);replace bX:=xU zz;clear zz eX
 obtain ⟨ya,yp,rfl,_⟩:=aO.seg
 obtain ⟨yb,yq,rfl,_⟩:=aQ.seg
 clear aO aQ dH dF bb
 have ee:=nE x.2.1 h
 cases hx:x.2.2 with
 | true =>
  go_wp2
  go_ret
  exact ⟨by simp [hx],by exact zB⟩
 | false =>
  go_wp2
  go_ret
  exact ⟨by simp [hx],by exact zB⟩
theorem yO (x:St) (c:Ch) (h:Ha) (a b:Option Addr) (p q:Nat) (w:World) (h1:eY w w.heap.size a c.cells) (z1:a=none→p=0) (h2:eZ w w.heap.size b c.words) (z2:b=none→q=0)
  (hs:∀ (a b:Option Addr) (p q:Nat) (w:World),eY w w.heap.size a c.cells→(a=none→p=0)→eZ w w.heap.size b c.words→(b=none→q=0)→Calls Tryz.prog 267 #[.agg (af c (.slice a c.cells.length p) (.slice b c.words.length q)),.agg (aa h)] w fun r w'=>bQ w w' x r) (hp:16≤h.pos∧h.pos≤22) :
  Calls Tryz.prog 158 #[.agg (af c (.slice a c.cells.length p) (.slice b c.words.length q)),.agg (aa h)] w fun r w'=>r=.returned (.bool (!x.2.2 && nZ x.2.1 h))∧Below w.heap.size w w':=by
 have hT:=fun a b p q w h1 z1 h2 z2=>tV x c h a b p q w h1 z1 h2 z2 hs
 replace hs:=hT
 clear hT
 have H1:=Lib.hid h1
 have H2:=Lib.hid h2
 have Z1:=Lib.hid z1
 have Z2:=Lib.hid z2
 have HS:=Lib.hid hs
 clear h1 h2 z1 z2 hs
 go_enter Tryz.func158,Tryz.ntmps158
 go_wp2_with fail
 refine (Kg h.pos _ hp).mono ?_
 rintro _ _ ⟨rfl,rfl⟩
 have q1:=wz
 have q2:=wB
 have q3:=wC
 have q4:=Kk
 go_wp2_with fail
 refine au w zB fun bb=>?_
 refine (HS.out _ _ _ _ _ (aT H1 bb) Z1.out (aT H2 bb) Z2.out).mono ?_
 rintro _ w9 ⟨⟨y1,y2,rfl,aO,aQ,dH,dF⟩,eX⟩
 have LQ:Below w.heap.size w w9:=bT bb eX
 have jd:=eX.size;(try simp at jd);have zz:=O8 eX (b:=w.heap.size);(try simp [go_sem] at zz);replace bX:=xU zz;clear zz eX
 obtain ⟨ya,yp,rfl,_⟩:=aO.seg
 obtain ⟨yb,yq,rfl,_⟩:=aQ.seg
 clear aO aQ dH dF bb
 have ee:=nE x.2.1 h
 cases hx:x.2.2 with
 | true =>
  go_wp2
  go_ret
  exact ⟨by simp [hx],by exact zB⟩
 | false =>
  go_wp2
  go_ret
  exact ⟨by simp [hx],by exact zB⟩
theorem yP (x:St) (c:Ch) (h:Ha) (a b:Option Addr) (p q:Nat) (w:World) (h1:eY w w.heap.size a c.cells) (z1:a=none→p=0) (h2:eZ w w.heap.size b c.words) (z2:b=none→q=0)
  (hs:∀ (a b:Option Addr) (p q:Nat) (w:World),eY w w.heap.size a c.cells→(a=none→p=0)→eZ w w.heap.size b c.words→(b=none→q=0)→Calls Tryz.prog 273 #[.agg (af c (.slice a c.cells.length p) (.slice b c.words.length q)),.agg (aa h)] w fun r w'=>bQ w w' x r) (hp:23≤h.pos∧h.pos≤25) :
  Calls Tryz.prog 158 #[.agg (af c (.slice a c.cells.length p) (.slice b c.words.length q)),.agg (aa h)] w fun r w'=>r=.returned (.bool (!x.2.2 && nZ x.2.1 h))∧Below w.heap.size w w':=by
 have hT:=fun a b p q w h1 z1 h2 z2=>tX x c h a b p q w h1 z1 h2 z2 hs
 replace hs:=hT
 clear hT
 have H1:=Lib.hid h1
 have H2:=Lib.hid h2
 have Z1:=Lib.hid z1
 have Z2:=Lib.hid z2
 have HS:=Lib.hid hs
 clear h1 h2 z1 z2 hs
 go_enter Tryz.func158,Tryz.ntmps158
 go_wp2_with fail
 refine (Kh h.pos _ hp).mono ?_
 rintro _ _ ⟨rfl,rfl⟩
 have q1:=wD
 have q2:=wE
 have q3:=wF
 have q4:=Kl
 go_wp2_with fail
 refine au w zB fun bb=>?_
 refine (HS.out _ _ _ _ _ (aT H1 bb) Z1.out (aT H2 bb) Z2.out).mono ?_
 rintro _ w9 ⟨⟨y1,y2,rfl,aO,aQ,dH,dF⟩,eX⟩
 have LQ:Below w.heap.size w w9:=bT bb eX
 have jd:=eX.size;(try simp at jd);have zz:=O8 eX (b:=w.heap.size);(try simp [go_sem] at zz);replace bX:=xU zz;clear zz eX
 obtain ⟨ya,yp,rfl,_⟩:=aO.seg
 obtain ⟨yb,yq,rfl,_⟩:=aQ.seg
 clear aO aQ dH dF bb
 have ee:=nE x.2.1 h
 cases hx:x.2.2 with
 | true =>
  go_wp2
  go_ret
  exact ⟨by simp [hx],by exact zB⟩
 | false =>
  go_wp2
  go_ret
  exact ⟨by simp [hx],by exact zB⟩
theorem yQ (c:Ch) (h:Ha) (a b:Option Addr) (p q:Nat) (w:World) (hp:h.pos≤0) :
  Calls Tryz.prog 158 #[.agg (af c (.slice a c.cells.length p) (.slice b c.words.length q)),.agg (aa h)] w fun r w'=>r=.returned (.bool false)∧Below w.heap.size w w':=by
 go_enter Tryz.func158,Tryz.ntmps158
 go_wp2_with fail
 refine (Kb h.pos _ hp).mono ?_
 rintro _ _ ⟨rfl,rfl⟩
 have q1:=rA
 have q2:=rC
 have q3:=rD
 go_wp2
 go_ret
 exact ⟨rfl,by exact zB⟩
theorem yR (c:Ch) (h:Ha) (a b:Option Addr) (p q:Nat) (w:World) (hp:1≤h.pos∧h.pos≤8) :
  Calls Tryz.prog 158 #[.agg (af c (.slice a c.cells.length p) (.slice b c.words.length q)),.agg (aa h)] w fun r w'=>r=.returned (.bool false)∧Below w.heap.size w w':=by
 go_enter Tryz.func158,Tryz.ntmps158
 go_wp2_with fail
 refine (Kc h.pos _ hp).mono ?_
 rintro _ _ ⟨rfl,rfl⟩
 have q1:=wG
 have q2:=wH
 have q3:=wI
 go_wp2
 go_ret
 exact ⟨rfl,by exact zB⟩
theorem yS (c:Ch) (h:Ha) (a b:Option Addr) (p q:Nat) (w:World) (hp:26≤h.pos) :
  Calls Tryz.prog 158 #[.agg (af c (.slice a c.cells.length p) (.slice b c.words.length q)),.agg (aa h)] w fun r w'=>r=.returned (.bool false)∧Below w.heap.size w w':=by
 go_enter Tryz.func158,Tryz.ntmps158
 go_wp2_with fail
 refine (Ki h.pos _ hp).mono ?_
 rintro _ _ ⟨rfl,rfl⟩
 have q1:=rA
 have q2:=rC
 have q3:=rD
 go_wp2
 go_ret
 exact ⟨rfl,by exact zB⟩
end
section
theorem kA {x0 a b:Prop} (f:a→b) (h:x0∧a):x0∧b:=⟨h.1,f h.2⟩
theorem kB {x0 x1 a b:Prop} (f:a→b) (h:x0∧x1∧a):x0∧x1∧b:=⟨h.1,h.2.1,f h.2.2⟩
theorem kC {x0 x1 x2 x3 a b:Prop} (f:a→b) (h:x0∧x1∧x2∧x3∧a):x0∧x1∧x2∧x3∧b:=⟨h.1,h.2.1,h.2.2.1,h.2.2.2.1,f h.2.2.2.2⟩
theorem kD {x0 x1 x2 x3 x4 x5 x6 x7 a b:Prop} (f:a→b) (h:x0∧x1∧x2∧x3∧x4∧x5∧x6∧x7∧a):x0∧x1∧x2∧x3∧x4∧x5∧x6∧x7∧b:=⟨h.1,h.2.1,h.2.2.1,h.2.2.2.1,h.2.2.2.2.1,h.2.2.2.2.2.1,h.2.2.2.2.2.2.1,h.2.2.2.2.2.2.2.1,f h.2.2.2.2.2.2.2.2⟩
theorem kE {x0 x1 x2 x3 x4 x5 x6 x7 x8 x9 MK ML MM Oc Od Oe a b:Prop} (f:a→b) (h:x0∧x1∧x2∧x3∧x4∧x5∧x6∧x7∧x8∧x9∧MK∧ML∧MM∧Oc∧Od∧Oe∧a):x0∧x1∧x2∧x3∧x4∧x5∧x6∧x7∧x8∧x9∧MK∧ML∧MM∧Oc∧Od∧Oe∧b:=⟨h.1,h.2.1,h.2.2.1,h.2.2.2.1,h.2.2.2.2.1,h.2.2.2.2.2.1,h.2.2.2.2.2.2.1,h.2.2.2.2.2.2.2.1,h.2.2.2.2.2.2.2.2.1,h.2.2.2.2.2.2.2.2.2.1,h.2.2.2.2.2.2.2.2.2.2.1,h.2.2.2.2.2.2.2.2.2.2.2.1,h.2.2.2.2.2.2.2.2.2.2.2.2.1,h.2.2.2.2.2.2.2.2.2.2.2.2.2.1,h.2.2.2.2.2.2.2.2.2.2.2.2.2.2.1,h.2.2.2.2.2.2.2.2.2.2.2.2.2.2.2.1,f h.2.2.2.2.2.2.2.2.2.2.2.2.2.2.2.2⟩
theorem jC {x0 x1 x2 x3 a:Prop} (h:x0∧x1∧x2∧x3∧a):a:=h.2.2.2.2
theorem jD {x0 x1 x2 x3 x4 x5 x6 x7 a:Prop} (h:x0∧x1∧x2∧x3∧x4∧x5∧x6∧x7∧a):a:=h.2.2.2.2.2.2.2.2
theorem jE {x0 x1 x2 x3 x4 x5 x6 x7 x8 x9 MK ML MM Oc Od Oe a:Prop} (h:x0∧x1∧x2∧x3∧x4∧x5∧x6∧x7∧x8∧x9∧MK∧ML∧MM∧Oc∧Od∧Oe∧a):a:=h.2.2.2.2.2.2.2.2.2.2.2.2.2.2.2.2
theorem kX {a b c d:Prop} (x:c) (f:a→b) (h:d∧a):c∧b:=⟨x,f h.2⟩
theorem nB {P:Prop} (h:false=true):P:=by cases h
def qB (l:List Nat):List Nat:=0 :: 1 :: 2 :: 3 :: 4 :: 5 :: 6 :: 7 :: l
def qC (l:List Nat):List Nat:=0 :: 1 :: 2 :: 3 :: 4 :: 5 :: 6 :: 7 :: 8 :: 9 :: 10 :: 11 :: 12 :: 13 :: 14 :: 15 :: l
def qD (l:List Nat):List Nat:=0 :: 1 :: 2 :: 3 :: 4 :: 5 :: 6 :: 7 :: 8 :: 9 :: 10 :: 11 :: 12 :: 13 :: 14 :: 15 :: 16 :: 17 :: 18 :: 19 :: 20 :: 21 :: 22 :: 23 :: l
def qE (l:List Nat):List Nat:=0 :: 1 :: 2 :: 3 :: 4 :: 5 :: 6 :: 7 :: 8 :: 9 :: 10 :: 11 :: 12 :: 13 :: 14 :: 15 :: 16 :: 17 :: 18 :: 19 :: 20 :: 21 :: 22 :: 23 :: 24 :: 25 :: 26 :: 27 :: 28 :: 29 :: 30 :: 31 :: l
end
section
open Go.RowKit
theorem fM (n m:Int) (w:World):Calls Tryz.prog 45 #[.int .i64 n,.int .i64 m] w fun e w'=>e=.returned (.bool (dL n 0 m))∧w=w':=by
 go_enter Tryz.func45,Tryz.ntmps45
 go_wp2
 all_goals go_ret
 ·exact ⟨aZ (Gi ‹_›),rfl⟩
 ·exact ⟨aZ (qK (.inl ‹_›)).symm,rfl⟩
def Ho (n:Int) (e:Ending):Prop:=∃ s:ByteArray,e=.returned (.string s)∧s.toList.isEmpty=!(dL n 0 10)
theorem EJ {n:Int} (s:ByteArray) (hs:s.data.size≠0) (h1:0≤n) (h2:n≤10):Ho n (.returned (.string s)):=⟨_,rfl,by
 obtain ⟨⟨l⟩⟩:=s
 rw [Jk h1 h2]
 cases l with
 | nil=>simp at hs
 | cons a l=>simp⟩
theorem Hq {n:Int} (h:n<0∨10<n):Ho n (.returned (.string ⟨#[]⟩)):=⟨_,rfl,by rw [qK h];simp⟩
theorem BJ (n:Int) (w:World):Calls Tryz.prog 195 #[.int .i64 n] w fun e w'=>Ho n e∧w=w':=by
 by_cases h:0≤n∧n≤10
 ·have hn:n=0∨n=1∨n=2∨n=3∨n=4∨n=5∨n=6∨n=7∨n=8∨n=9∨n=10:=by omega
  clear h
  rcases hn with rfl|rfl|rfl|rfl|rfl|rfl|rfl|rfl|rfl|rfl|rfl
  all_goals
   go_enter Tryz.func195,Tryz.ntmps195
   go_wp2
   go_ret
   exact ⟨EJ _ (by decide) tO tO,rfl⟩
 ·have h0:(n == 0)=false:=by simp;omega
  have h1:(n == 1)=false:=by simp;omega
  have h2:(n == 2)=false:=by simp;omega
  have h3:(n == 3)=false:=by simp;omega
  have h4:(n == 4)=false:=by simp;omega
  have h5:(n == 5)=false:=by simp;omega
  have h6:(n == 6)=false:=by simp;omega
  have h7:(n == 7)=false:=by simp;omega
  have h8:(n == 8)=false:=by simp;omega
  have h9:(n == 9)=false:=by simp;omega
  have h10:(n == 10)=false:=by simp;omega
  have H:=Lib.hid h
  clear h
  go_enter Tryz.func195,Tryz.ntmps195
  go_wp2
  go_ret
  exact ⟨Hq (by have:=H.out;omega),rfl⟩
theorem oh (s e t:Int) (w:World):Calls Tryz.prog 181 #[.agg #[.int .i64 s,.int .i64 e,.int .i64 t]] w fun r w'=>r=.returned (.bool (iN s e t))∧Below w.heap.size w w':=by
 go_enter Tryz.func181,Tryz.ntmps181
 go_wp2_with (first|(go_at_call 195;refine (BJ _ _).mono ?_;rintro r1 w1 ⟨⟨s1,rfl,hs⟩,rfl⟩)|(go_at_call 45;refine (fM _ _ _).mono ?_;rintro _ _ ⟨rfl,rfl⟩))
 all_goals go_ret
 all_goals refine ⟨aZ ?_,by exact zB⟩
 ·exact DL ‹_› ‹_›
 ·exact DK ‹_›
 ·exact DJ ‹_›
end
end Go.Proofs.YtffhjmepfojhnaaGreat
