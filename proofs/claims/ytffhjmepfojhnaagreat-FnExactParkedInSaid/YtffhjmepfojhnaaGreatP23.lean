/-
  How a channel is opened that is an argument of a law; no condition but that it can be read.
-/
import Derived.Test.YtffhjmepfojhnaaGreatP22
import Derived.Test.YtffhjmepfojhnaaGreatP02
import Derived.Test.YtffhjmepfojhnaaGreatP17
import Derived.Test.YtffhjmepfojhnaaGreatP20
import Derived.Test.YtffhjmepfojhnaaGreatP07
set_option maxRecDepth 100000
set_option maxHeartbeats 1000000
set_option linter.unusedSimpArgs false
set_option linter.unusedVariables false
namespace Go.Proofs.YtffhjmepfojhnaaGreat
section
open Go.ChangeShapes Go.WideShapes Go.ChangeAt Go.RowKit Go.Deep
section
variable {H:Type} {enc:TypeId × Value→H} {w:World} {spare:Nat→Bool} {held:Bool}
theorem FW (fuel:Nat) (cs:List Value) (x:DataW H × List MemPlace) (hx:DataW.trod enc Tryz.prog w 0 spare held fuel 2 cs=some x) :
  ∃ c:Int,(Lit.int .i64 c).wf=true∧∀ j,j<1→cs[j]?=some (Value.int .i64 c):=by
 obtain ⟨c,rfl,_,hw⟩:=DataW.trod_int Tryz.underlying2 hx
 refine ⟨c,hw,fun j hj=>?_⟩
 have:j=0:=by omega
 subst this;rfl
end
end
section
open Go.ChangeShapes Go.WideShapes Go.ChangeAt Go.RowKit Go.Deep
section
variable {H:Type} {enc:TypeId × Value→H} {w:World} {spare:Nat→Bool} {held:Bool}
end
end
section
open Go.ChangeShapes Go.WideShapes Go.ChangeAt Go.RowKit Go.Deep
section
variable {H:Type} {enc:TypeId × Value→H} {w:World} {spare:Nat→Bool} {held:Bool}
theorem Jd (fuel:Nat) (cs:List Value) (x:DataW H × List MemPlace) (h:DataW.trod enc Tryz.prog w 0 spare held fuel 162 cs=some x) :
  ∃ k e:Int,cs[0]?=some (.int .i64 k)∧cs[1]?=some (.int .i64 e):=by
 obtain ⟨_,g,hg⟩:=LG Tryz.underlying162 (by kernel_rfl) (by kernel_rfl) h
 exact ⟨g 0,g 1,(hg 0 (by decide)).1,(hg 1 (by decide)).1⟩
theorem j6 (fuel:Nat) (cs:List Value) (x:DataW H × List MemPlace) (hx:DataW.trod enc Tryz.prog w 0 spare held fuel 2 cs=some x):∃ c:Int,cs[0]?=some (Value.int .i64 c):=by
 obtain ⟨c,rfl,_,_⟩:=DataW.trod_int Tryz.underlying2 hx
 exact ⟨c,rfl⟩
theorem NP (fuel:Nat) (cs:List Value) (x:DataW H × List MemPlace) (h:DataW.trod enc Tryz.prog w 0 spare held fuel 164 cs=some x) :
  ∃ y:Ha,∀ j,j<14→cs[j]?=(aa y)[j]?:=by
 obtain ⟨xs,n,_,_,hlen,hxl,hg⟩:=DataW.trod_struct Tryz.underlying164 h
 have c2:Tryz.prog.cellsOf 2=1:=by kernel_rfl
 have c3:Tryz.prog.cellsOf 162=2:=by kernel_rfl
 have g0:=hg 0 _ rfl
 have g1:=hg 1 _ rfl
 have g2:=hg 2 _ rfl
 have g3:=hg 3 _ rfl
 have g4:=hg 4 _ rfl
 have g5:=hg 5 _ rfl
 have g6:=hg 6 _ rfl
 have g7:=hg 7 _ rfl
 have g8:=hg 8 _ rfl
 have g9:=hg 9 _ rfl
 have g10:=hg 10 _ rfl
 have g11:=hg 11 _ rfl
 have g12:=hg 12 _ rfl
 rw [List.getElem?_eq_getElem (by simp at hxl;omega)] at g0 g1 g2 g3 g4 g5 g6 g7 g8 g9 g10 g11 g12
 obtain ⟨x0,e0⟩:=j6 _ _ _ g0
 obtain ⟨k,e,ek,ee⟩:=Jd _ _ _ g1
 obtain ⟨x2,e2⟩:=j6 _ _ _ g2
 obtain ⟨x3,e3⟩:=j6 _ _ _ g3
 obtain ⟨x4,e4⟩:=j6 _ _ _ g4
 obtain ⟨x5,e5⟩:=j6 _ _ _ g5
 obtain ⟨x6,e6⟩:=j6 _ _ _ g6
 obtain ⟨x7,e7⟩:=j6 _ _ _ g7
 obtain ⟨x8,e8⟩:=j6 _ _ _ g8
 obtain ⟨x9,e9⟩:=j6 _ _ _ g9
 obtain ⟨MK,e10⟩:=j6 _ _ _ g10
 obtain ⟨ML,e11⟩:=j6 _ _ _ g11
 obtain ⟨MM,e12⟩:=j6 _ _ _ g12
 simp [c2,c3,List.getElem?_take,List.getElem?_drop] at e0 ek ee e2 e3 e4 e5 e6 e7 e8 e9 e10 e11 e12
 refine ⟨⟨x0,k,e,x2,x3,x4,x5,x6,x7,x8,x9,MK,ML,MM⟩,fun j hj=>?_⟩
 have hj2:j=0∨j=1∨j=2∨j=3∨j=4∨j=5∨j=6∨j=7∨j=8∨j=9∨j=10∨j=11∨j=12∨j=13:=by omega
 rcases hj2 with rfl|rfl|rfl|rfl|rfl|rfl|rfl|rfl|rfl|rfl|rfl|rfl|rfl|rfl
 ·exact e0
 ·exact ek
 ·exact ee
 ·exact e2
 ·exact e3
 ·exact e4
 ·exact e5
 ·exact e6
 ·exact e7
 ·exact e8
 ·exact e9
 ·exact e10
 ·exact e11
 ·exact e12
end
end
section
open Go.ChangeShapes Go.WideShapes Go.ChangeAt Go.RowKit Go.Deep
section
variable {H:Type} {enc:TypeId × Value→H} {w:World} {spare:Nat→Bool} {held:Bool}
theorem NQ (fuel:Nat) (cs:List Value) (x:DataW H × List MemPlace) (h:DataW.trod enc Tryz.prog w 0 spare held fuel 167 cs=some x) :
  ∃ y:De,True∧∀ j,j<7→cs[j]?=some ((fq y).getD j (.int .i64 0)):=by
 obtain ⟨xs,n,_,_,hlen,hxl,hg⟩:=DataW.trod_struct Tryz.underlying167 h
 have c2:Tryz.prog.cellsOf 2=1:=by kernel_rfl
 have c3:Tryz.prog.cellsOf 162=2:=by kernel_rfl
 have g0:=hg 0 _ rfl
 have g1:=hg 1 _ rfl
 have g2:=hg 2 _ rfl
 have g3:=hg 3 _ rfl
 have g4:=hg 4 _ rfl
 have g5:=hg 5 _ rfl
 rw [List.getElem?_eq_getElem (by simp at hxl;omega)] at g0 g1 g2 g3 g4 g5
 obtain ⟨x0,e0⟩:=j6 _ _ _ g0
 obtain ⟨k,e,ek,ee⟩:=Jd _ _ _ g1
 obtain ⟨x2,e2⟩:=j6 _ _ _ g2
 obtain ⟨x3,e3⟩:=j6 _ _ _ g3
 obtain ⟨x4,e4⟩:=j6 _ _ _ g4
 obtain ⟨x5,e5⟩:=j6 _ _ _ g5
 simp [c2,c3,List.getElem?_take,List.getElem?_drop] at e0 ek ee e2 e3 e4 e5
 refine ⟨⟨x0,k,e,x2,x3,x4,x5⟩,trivial,fun j hj=>?_⟩
 have hj2:j=0∨j=1∨j=2∨j=3∨j=4∨j=5∨j=6:=by omega
 rcases hj2 with rfl|rfl|rfl|rfl|rfl|rfl|rfl
 ·exact e0
 ·exact ek
 ·exact ee
 ·exact e2
 ·exact e3
 ·exact e4
 ·exact e5
theorem Mt (fuel:Nat) (cs:List Value) (x:DataW H × List MemPlace) (h:DataW.trod enc Tryz.prog w 0 spare held fuel 164 cs=some x) :
  ∃ y:Ha,True∧∀ j,j<14→cs[j]?=some ((aa y).getD j (.int .i64 0)):=by
 obtain ⟨y,hy⟩:=NP _ _ _ h
 refine ⟨y,trivial,fun j hj=>?_⟩
 rw [hy j hj]
 simp [Array.getD,lJ,hj]
theorem Mv (fuel:Nat) (cs:List Value) (x:DataW H × List MemPlace) (h:DataW.trod enc Tryz.prog w 0 spare held fuel 64 cs=some x) :
  ∃ (c:Ch) (a b:Option Addr) (p q:Nat),cs=[.int .i64 c.cap,.int .i64 c.sent,.int .i64 c.got,.int .i64 c.fin,.slice a c.cells.length p,.slice b c.words.length q]∧c.cells.length≤maxLen∧c.words.length≤maxLen ∧
   eY w w.heap.size a c.cells∧eZ w w.heap.size b c.words:=by
 obtain ⟨xs,n,_,_,hlen,hxl,hg⟩:=DataW.trod_struct Tryz.underlying64 h
 have h3:Tryz.prog.cellsOf 64=6:=by kernel_rfl
 have hs:cs.length=6:=hlen.trans h3
 match cs,hs with
 | [v0,v1,v2,v3,v4,v5],_ =>
  have c2:Tryz.prog.cellsOf 2=1:=by kernel_rfl
  have c4:Tryz.prog.cellsOf 62=1:=by kernel_rfl
  have c5:Tryz.prog.cellsOf 29=1:=by kernel_rfl
  have g0:=hg 0 _ rfl
  have g1:=hg 1 _ rfl
  have g2:=hg 2 _ rfl
  have g3:=hg 3 _ rfl
  have g4:=hg 4 _ rfl
  have g5:=hg 5 _ rfl
  rw [List.getElem?_eq_getElem (by simp at hxl;omega)] at g0 g1 g2 g3 g4 g5
  obtain ⟨x0,_,e0⟩:=FW _ _ _ g0
  obtain ⟨x1,_,e1⟩:=FW _ _ _ g1
  obtain ⟨x2,_,e2⟩:=FW _ _ _ g2
  obtain ⟨x3,_,e3⟩:=FW _ _ _ g3
  obtain ⟨a,cells,p,e4,m1,m2,_,s1⟩:=xK 3 C3.val C3.wf ⟨0,0,0⟩ Tryz.underlying62 (by kernel_rfl) (by decide) NN g4
  obtain ⟨b,words,q,e5,m3,m4,_,s2⟩:=xK 1 (fun (c:Int) _=>.int .i64 c) (fun c=>(Lit.int .i64 c).wf=true) 0 Tryz.underlying29 (by kernel_rfl) (by decide) FW g5
  replace e0:=e0 0 tO
  replace e1:=e1 0 tO
  replace e2:=e2 0 tO
  replace e3:=e3 0 tO
  simp [c2,Value.cells] at e0 e1 e2 e3
  simp [c4,Value.cells] at e4
  simp [c5,Value.cells] at e5
  subst e0 e1 e2 e3 e4 e5
  exact ⟨⟨x0,x1,x2,x3,cells,words⟩,a,b,p,q,rfl,Nat.le_trans m1 m2,Nat.le_trans m3 m4,s1,s2⟩
theorem Dv {r:Reach} {b0:Nat} {v:Value} {d:DataW H} {pl:List MemPlace} (hv:Value.okWide Tryz.prog w r b0 68 v) (h:DataW.Trod enc Tryz.prog w 0 spare held 68 v d pl) :
  ∃ (x:Wo) (a b d e:Option Addr) (p q r s:Nat),v=.agg #[.int .i64 x.ch.cap,.int .i64 x.ch.sent,.int .i64 x.ch.got,.int .i64 x.ch.fin,.slice a x.ch.cells.length p,.slice b x.ch.words.length q,.slice d x.hands.length r,.slice e x.deals.length s,.int .i64 x.now]∧(x.ch.cells.length≤maxLen∧x.ch.words.length≤maxLen∧x.hands.length≤maxLen∧x.deals.length≤maxLen)∧gm w w.heap.size x a b d e:=by
 obtain ⟨cs,rfl,hsz⟩:=okWide_struct Tryz.underlying68 hv
 obtain ⟨l⟩:=cs
 have h3:Tryz.prog.cellsOf 68=9:=by kernel_rfl
 have hs:l.length=9:=by simpa [h3] using hsz
 obtain ⟨fuel,hf⟩:=h
 obtain ⟨xs,n,_,_,hlen,hxl,hg⟩:=DataW.trod_struct Tryz.underlying68 hf
 match l,hs with
 | [v0,v1,v2,v3,v4,v5,v6,v7,v8],_ =>
  have c1:Tryz.prog.cellsOf 64=6:=by kernel_rfl
  have c2:Tryz.prog.cellsOf 2=1:=by kernel_rfl
  have c4:Tryz.prog.cellsOf 65=1:=by kernel_rfl
  have c5:Tryz.prog.cellsOf 66=1:=by kernel_rfl
  have g0:=hg 0 _ rfl
  have g1:=hg 1 _ rfl
  have g2:=hg 2 _ rfl
  have g3:=hg 3 _ rfl
  rw [List.getElem?_eq_getElem (by simp at hxl;omega)] at g0 g1 g2 g3
  obtain ⟨c,a,b,p,q,e0,m1,m2,s1,s2⟩:=Mv _ _ _ g0
  obtain ⟨a3,hands,p3,e1,k1,k2,_,s3⟩:=xK 14 (fun y j=>(aa y).getD j (.int .i64 0)) (fun _=>True) Ha.zero Tryz.underlying65 (by kernel_rfl) (by decide) Mt g1
  obtain ⟨a4,deals,p4,e2,k3,k4,_,s4⟩:=xK 7 (fun y j=>(fq y).getD j (.int .i64 0)) (fun _=>True) De.zero Tryz.underlying66 (by kernel_rfl) (by decide) NQ g2
  obtain ⟨x3,_,e3⟩:=FW _ _ _ g3
  replace e3:=e3 0 tO
  simp [c1,Value.cells] at e0
  simp [c4,Value.cells] at e1
  simp [c5,Value.cells] at e2
  simp [c2,Value.cells] at e3
  obtain ⟨rfl,rfl,rfl,rfl,rfl,rfl⟩:=e0
  subst e1 e2 e3
  exact ⟨⟨c,hands,deals,x3⟩,a,b,a3,a4,p,q,p3,p4,rfl,⟨m1,m2,Nat.le_trans k1 k2,Nat.le_trans k3 k4⟩,s1,s2,s3,s4⟩
end
end
section
open Go.ChangeShapes Go.WideShapes Go.ChangeAt Go.RowKit
theorem xL (x:Wo) (m:iZ x):(cB x).length≤1048576:=by
 have h:=m.2.2.1
 unfold cB
 split
 ·have:=ky x x.hands.length
  omega
 ·simp
theorem Dw (x:Wo) (m:iZ x) (a b d e:Option Addr) (p q r s:Nat) (w:World) (h:gm w w.heap.size x a b d e) (z:iB x a b d e p q r s) :
  Calls Tryz.prog 26 #[.agg (dP x (.slice a x.ch.cells.length p) (.slice b x.ch.words.length q) (.slice d x.hands.length r) (.slice e x.deals.length s))] w fun r' w'=>(∃ v,r'=.returned v∧ai w' w.heap.size v (cB x))∧Below w.heap.size w w' :=
 nS x a b d e p q r s w h.1 z.1 h.2.1 z.2.1 h.2.2.1 h.2.2.2 (by have:=m.1;omega) (by have:=m.2.2.1;omega) (by have:=m.2.2.2;omega)
theorem Dx (x:Wo) (m:iZ x) (a b d e:Option Addr) (p q r s:Nat) (w:World) (h:gm w w.heap.size x a b d e) (z:iB x a b d e p q r s) :
  Calls Tryz.prog 16 #[.agg (dP x (.slice a x.ch.cells.length p) (.slice b x.ch.words.length q) (.slice d x.hands.length r) (.slice e x.deals.length s))] w fun r' w'=>(∃ v,r'=.returned v∧ai w' w.heap.size v (cB x))∧Below w.heap.size w w' :=
 uS x a b d e p q r s w h z m
namespace FnExactParkedIn
theorem lifted (os:Os) (started:os.Started) (H:Type) (enc:TypeId × Value→H) :
  ReturnsInHanded {} Tryz.checked os 6 .any (Rows.fnExactParkedInSpec.pre6 enc Tryz.prog Tryz.f6 Rows.fnExactParkedInRow.domain false) (Rows.fnExactParkedInSpec.post enc Tryz.prog Tryz.f6 false true false false):=by
 refine returnsInHanded_of_change (C:=Tryz.checked) own started (by kernel_rfl) Tryz.func6
  (ChangeSpec.witness6 (enc:=enc) (C:=Tryz.checked) false ⟨#[],#[.agg #[.int .i64 0,.int .i64 0,.int .i64 0,.int .i64 0,.slice none 0 0,.slice none 0 0,.slice none 0 0,.slice none 0 0,.int .i64 0]],[]⟩ 8 (by kernel_rfl) (by kernel_rfl) (by kernel_rfl) (by kernel_rfl)) ?_
 intro W base args ds gs before hval0 hW hcnd _
 have hval:∀ (j:Nat) t v,Tryz.f6.params[j]?=some t→args[j]?=some v→Value.okWide Tryz.prog W .any base t v:=hval0
 have hW':=hW
 obtain ⟨p,q,LH,hV,rfl,hfz,hnd⟩:=hW
 have hA:DataW.TrodAll enc Tryz.prog W 0 (fun _=>true) true Tryz.f6.params.toList args.toList ds p:=LH
 rw [Tryz.params6] at hA hval
 obtain ⟨v0,PI,d0,ds0,p0,q0,hargs,rfl,rfl,h0,r0⟩:=trodAll_cons hA
 obtain ⟨rfl,rfl,rfl⟩:=trodAll_nil r0
 obtain rfl:args=#[v0]:=by cases args;simp_all
 obtain ⟨rfl,rfl⟩:=trodVars_none hV
 have k0:=h0
 have NR:∀ x ∈ p0,x.block<W.heap.size:=by obtain ⟨m,hm⟩:=k0;exact DataW.trod_lt m _ _ _ hm
 obtain ⟨Dy,NS,sb0,NT,NU,NV,NW,NY,NZ,rfl,m0,S0⟩:=Dv (hval 0 68 v0 rfl rfl) h0
 clear LH hval0
 refine (oW Dy (cB Dy) (xL Dy) NS sb0 NT NU NV NW NY NZ W S0 m0 (Dw Dy) (Dx Dy)).mono fun e W' ⟨he,LJ⟩=>?_
 subst he
 exact ⟨_,rfl,_,_,_,[],_,[],hW',trodAll_mk1 (shut_bool Tryz.underlying4 _),(trodAll_cons_mk (Below.trod laidOut (by kernel_rfl) (of_decide_eq_true (by kernel_rfl)) k0 LJ NR) trodAll_mk0),rfl,LJ.frame _,fun h=>by cases h⟩
theorem over:Rows.fnExactParkedInRow.holds Tryz.pinned (OpenSpec.ofChange Rows.fnExactParkedInSpec) :=
 OpenClaim.holds_of_wide 6 Tryz.f6 rfl rfl rfl rfl rfl rfl rfl ⟨rfl,rfl,rfl,rfl,rfl⟩ rfl rfl rfl rfl rfl (by kernel_rfl) Tryz.func6 (by kernel_rfl)
  (of_decide_eq_true (by kernel_rfl)) (by unfold Func.isWrapper;first|(rw [if_pos (by decide +kernel)];kernel_rfl)|(rw [if_neg (by decide +kernel)];exact ⟨rfl,rfl⟩))
  (fun os started H enc _=>lifted os started H enc)
end FnExactParkedIn
theorem fnExactParkedIn_proved:Rows.FnExactParkedInSaid:=FnExactParkedIn.over
end
section
open Go.RowKit
theorem Lie.take {w:World} {b n m k:Nat} {f:Nat→Nat→Value} (h:Lie w b n k f) (hm:m≤n):Lie w b m k f:=by
 obtain ⟨c,t,hb,hn,hc⟩:=h
 exact ⟨c,t,hb,Nat.le_trans (Nat.mul_le_mul_right k hm) hn,fun i j hi hj=>hc i j tO hj⟩
theorem Lie.alloc {w:World} {b n k:Nat} {f:Nat→Nat→Value} (h:Lie w b n k f) (o:Obj):Lie (w.alloc o) b n k f:=h.of_block (Below.heap_alloc w o b h.lt)
theorem FX (l:List Int) (x:Int) (i j:Nat):(if i=l.length then Value.int .i64 x else fP l i j)=fP (l ++ [x]) i j:=by
 unfold fP
 by_cases e:i=l.length
 ·subst e;simp [List.getD]
 ·rw [if_neg e]
  by_cases e2:i<l.length
  ·simp [List.getD,List.getElem?_append_left e2]
  ·have h1:l[i]?=none:=List.getElem?_eq_none tO
   have h2:(l ++ [x])[i]?=none:=List.getElem?_eq_none (by simp;omega)
   simp [List.getD,h1,h2]
theorem Lg (w:World) (g:Nat) (h:g=w.heap.size):Lie (w.alloc (.cells #[.int .i64 0,.int .i64 0,.int .i64 0,.int .i64 0,.int .i64 0,.int .i64 0,.int .i64 0,.int .i64 0,.int .i64 0,.int .i64 0,.int .i64 0,.int .i64 0,.int .i64 0,.int .i64 0,.int .i64 0,.int .i64 0,.int .i64 0,.int .i64 0,.int .i64 0,.int .i64 0,.int .i64 0,.int .i64 0,.int .i64 0,.int .i64 0,.int .i64 0,.int .i64 0,.int .i64 0,.int .i64 0,.int .i64 0,.int .i64 0,.int .i64 0,.int .i64 0,.int .i64 0,.int .i64 0,.int .i64 0,.int .i64 0,.int .i64 0,.int .i64 0,.int .i64 0,.int .i64 0] 142)) g 40 1 (fP []):=by
 subst h
 refine ⟨_,_,heap_alloc_new w _,by simp,fun i j hi hj=>?_⟩
 have:j=0:=by omega
 subst this
 have e:(#[Value.int .i64 0,.int .i64 0,.int .i64 0,.int .i64 0,.int .i64 0,.int .i64 0,.int .i64 0,.int .i64 0,.int .i64 0,.int .i64 0,.int .i64 0,.int .i64 0,.int .i64 0,.int .i64 0,.int .i64 0,.int .i64 0,.int .i64 0,.int .i64 0,.int .i64 0,.int .i64 0,.int .i64 0,.int .i64 0,.int .i64 0,.int .i64 0,.int .i64 0,.int .i64 0,.int .i64 0,.int .i64 0,.int .i64 0,.int .i64 0,.int .i64 0,.int .i64 0,.int .i64 0,.int .i64 0,.int .i64 0,.int .i64 0,.int .i64 0,.int .i64 0,.int .i64 0,.int .i64 0]:Array Value)=Array.replicate 40 (.int .i64 0):=rfl
 rw [e]
 simp [fP,hi]
theorem uT (c:Ch) (st:Int) (a b:Option Addr) (p q:Nat) (w:World) (h1:eY w w.heap.size a c.cells) (h2:eZ w w.heap.size b c.words) (m1:c.cells.length≤maxLen) (m2:c.words.length≤maxLen) :
  Calls Tryz.prog 57 #[.agg #[.int .i64 c.cap,.int .i64 c.sent,.int .i64 c.got,.int .i64 c.fin,.slice a c.cells.length p,.slice b c.words.length q],.int .i64 st] w fun r w'=>(∃ v,r=.returned v∧yj w' w.heap.size v (ik c st))∧Below w.heap.size w w':=by
 have H1:=Lib.hid h1
 have H2:=Lib.hid h2
 have M1:=Lib.hid m1
 have M2:=Lib.hid m2
 clear h1 h2 m1 m2
 by_cases hc:aG c=true
 ·have HV:Hid (kW c.cells st c.cells.length=ik c st):=by simp [ik,hc,Hid,AA]
  have QF:c.cells.length≤40:=by
   have:=lQ c ▸ hc
   simp [ko] at this
   omega
  go_enter Tryz.func57,Tryz.ntmps57
  go_wp2_with fail
  refine (fF c a b p q _ (((H1.out).below zB).more (by simp)) (((H2.out).below zB).more (by simp)) M1.out M2.out).mono ?_
  rintro _ w1 ⟨rfl,hb1⟩
  have hB1:Below w.heap.size w w1:=bT zB hb1
  have hs1:=hb1.size
  simp at hs1
  have:=fun o=>hb1.cell (p:=⟨w.heap.size,o,none⟩) (by simp)
  have:w.heap.size<w1.heap.size:=by omega
  clear hb1
  have hL0:=Lg w1 w1.heap.size rfl
  have QG:=Lib.hid hL0
  clear hL0
  go_wp2_with fail
  go_loopw [6,15] (fun n i wr=>∃ k:Nat,k≤c.cells.length∧i=.int .i64 k∧n=.int .i64 (kW c.cells st k).length∧Lie wr w1.heap.size 40 1 (fP (kW c.cells st k))∧Below w.heap.size w wr) (fun _ i _=>c.cells.length - (intOf i).toNat)
  case atStart=>exact ⟨0,Nat.zero_le _,rfl,by simp [Dn],by rw [Dn];exact QG.out,by exact zB⟩
  case round =>
   obtain ⟨k,hk,rfl,rfl,hL,hB⟩:=hrel
   have hs:=hB.size
   have hl:=hL.lt
   by_cases hlt:k<c.cells.length
   ·obtain h0|⟨bb,bo,rfl,hb,hcc⟩:=H1.out
    ·omega
    have c0:=(hB.cell (p:=⟨bb,bo+k*3+0,none⟩) hb).trans (hcc k 0 hlt tO)
    have c1:=(hB.cell (p:=⟨bb,bo+k*3+1,none⟩) hb).trans (hcc k 1 hlt tO)
    have c2:=(hB.cell (p:=⟨bb,bo+k*3+2,none⟩) hb).trans (hcc k 2 hlt tO)
    simp only [eT,C3.val,Nat.add_zero] at c0 c1 c2
    clear hcc
    generalize hcg:c.cells.getD k ⟨0,0,0⟩=d at c0 c1 c2
    have HC:=Lib.hid hcg
    clear hcg
    have hle:=sU c.cells st k
    have e0:=hL.cell (i:=(kW c.cells st k).length) (j:=0) tO tO
    simp only [Nat.add_zero,Nat.mul_one] at e0
    have f1:=hL.frozen
    have hn0:(0:Int)≤((kW c.cells st k).length:Int):=by omega
    have hn1:((kW c.cells st k).length:Int)<40:=by omega
    go_wp2
    ·go_roundw
     case rel=>exact ⟨k+1,by omega,by go_num,by rw [sS hlt HC.out ‹_›];simp,by rw [sS hlt HC.out ‹_›];exact ((hL.set1 tO (.int .i64 k)).congr (fun i j _ _=>FX _ _ i j)).alloc _,by exact zB⟩
     case measure=>simp [intOf];omega
    ·go_roundw
     case rel=>exact ⟨k+1,by omega,by go_num,by rw [xG hlt HC.out ‹_›],by rw [xG hlt HC.out ‹_›];exact hL.alloc _,by exact zB⟩
     case measure=>simp [intOf];omega
   ·have:k=c.cells.length:=by omega
    subst this
    have hle:=sU c.cells st c.cells.length
    go_wp2_with (go_at_call 108;refine (Hu (kW c.cells st c.cells.length).length tO _ _).mono ?_;rintro _ _ ⟨rfl,rfl⟩)
    go_ret
    exact ⟨⟨_,rfl,HV.out ▸ .inr ⟨_,_,rfl,by omega,hL.take tO⟩⟩,hB⟩
 ·have HV:Hid ([]=ik c st):=by simp [ik,hc,Hid]
  go_enter Tryz.func57,Tryz.ntmps57
  go_wp2_with fail
  refine (fF c a b p q _ (((H1.out).below zB).more (by simp)) (((H2.out).below zB).more (by simp)) M1.out M2.out).mono ?_
  rintro _ w1 ⟨rfl,hb1⟩
  have hB1:Below w.heap.size w w1:=bT zB hb1
  go_wp2
  go_ret
  exact ⟨⟨_,rfl,HV.out ▸ .inl ⟨rfl,rfl⟩⟩,hB1⟩
def kf (cells:List C3) (l:List Int) (k i j:Nat):Value:=if i<k then .int .i64 (elemOf cells (l.getD i 0)) else fP l i j
theorem Pt (cells:List C3) (l:List Int):kf cells l 0=fP l:=by funext i j;simp [kf]
theorem Lh {cells:List C3} {l:List Int} {k:Nat} {x:Int} (h:elemOf cells (l.getD k 0)=x) (i j:Nat):(if i=k then Value.int .i64 x else kf cells l k i j)=kf cells l (k+1) i j:=by
 unfold kf
 by_cases e:i=k
 ·subst e;rw [if_pos rfl,if_pos tO,h]
 ·rw [if_neg e]
  by_cases e2:i<k
  ·rw [if_pos e2,if_pos tO]
  ·rw [if_neg e2,if_neg tO]
theorem Mw {c:Ch} (h:aG c=true):∀ i j,i<(tF c 2).length→j<1→kf c.cells (tF c 2) (tF c 2).length i j=fP (keptIn c) i j:=fun i j hi _=>by
 have e:keptIn c=(tF c 2).map (elemOf c.cells):=by unfold keptIn;rw [if_pos h];rfl
 rw [e]
 simp [kf,fP,hi,List.getD]
theorem Je {c:Ch} (h:aG c=true):(keptIn c).length=(tF c 2).length:=by unfold keptIn;rw [if_pos h];simp
theorem Dz (c:Ch) (a b:Option Addr) (p q:Nat) (w:World) (h1:eY w w.heap.size a c.cells) (h2:eZ w w.heap.size b c.words) (m1:c.cells.length≤maxLen) (m2:c.words.length≤maxLen) :
  Calls Tryz.prog 17 #[.agg #[.int .i64 c.cap,.int .i64 c.sent,.int .i64 c.got,.int .i64 c.fin,.slice a c.cells.length p,.slice b c.words.length q]] w fun r w'=>(∃ v,r=.returned v∧yj w' w.heap.size v (keptIn c))∧Below w.heap.size w w':=by
 have H1:=Lib.hid h1
 have H2:=Lib.hid h2
 have M1:=Lib.hid m1
 have M2:=Lib.hid m2
 clear h1 h2 m1 m2
 go_enter Tryz.func17,Tryz.ntmps17
 go_wp2_with fail
 refine (uT c 2 a b p q _ (((H1.out).below zB).more (by simp)) (((H2.out).below zB).more (by simp)) M1.out M2.out).mono ?_
 rintro _ w1 ⟨⟨v1,rfl,hN⟩,hb1⟩
 have hB1:Below w.heap.size w w1:=bT zB hb1
 have hs1:=hb1.size
 simp at hs1 hN
 have hx4:w1.cell? ⟨w.heap.size,4,none⟩=some (.slice a c.cells.length p):=(hb1.cell (p:=⟨w.heap.size,4,none⟩) (by simp)).trans (by simp)
 by_cases hc:aG c=true
 ·have e1:ik c 2=tF c 2:=by simp [ik,hc]
  rw [e1] at hN
  have HE:=Lib.hid (Mw hc)
  have HK:=Lib.hid (Je hc)
  have HL:Hid (∀ x ∈ tF c 2,∃ k:Nat,x=(k:Int)∧k<c.cells.length):=fun x hx=>by
   obtain ⟨k,h1,_,h3⟩:=o8 2 c.cells 0 x hx
   exact ⟨k,h1,by omega⟩
  have QF:c.cells.length≤40:=by
   have:=lQ c ▸ hc
   simp [ko] at this
   omega
  have hll:(tF c 2).length≤c.cells.length:=by have:=mf 2 c.cells 0;unfold tF;omega
  clear hb1 e1 hc
  generalize tF c 2=l at *
  rcases hN with ⟨rfl,hn0⟩|⟨g,cap,rfl,hlo,hL⟩
  ·go_wp2_with fail
   go_loopw [10] (fun i wr=>i=.int .i64 0∧wr=w1) (fun i _=>0 - (intOf i).toNat)
   case atStart=>exact ⟨rfl,rfl⟩
   case round =>
    obtain ⟨rfl,rfl⟩:=hrel
    go_wp2
    go_ret
    exact ⟨⟨_,rfl,.inl ⟨rfl,by rw [HK.out,hn0]⟩⟩,hB1⟩
  ·go_wp2_with fail
   go_loopw [10] (fun i wr=>∃ k:Nat,k≤l.length∧i=.int .i64 k∧Lie wr g l.length 1 (kf c.cells l k)∧wr.cell? ⟨w.heap.size,4,none⟩=some (.slice a c.cells.length p)∧Below w.heap.size w wr) (fun i _=>l.length - (intOf i).toNat)
   case atStart=>exact ⟨0,Nat.zero_le _,rfl,by rw [Pt];exact hL,hx4,hB1⟩
   case round =>
    clear hL hx4 hB1
    obtain ⟨k,hk,rfl,hL,x4,hB⟩:=hrel
    have hs:=hB.size
    have hl:=hL.lt
    by_cases hlt:k<l.length
    ·obtain ⟨i,hxi,hi⟩:=HL.out (l.getD k 0) (by rw [List.getD,List.getElem?_eq_getElem hlt];exact List.getElem_mem hlt)
     obtain h0|⟨bb,bo,rfl,hb,hcc⟩:=H1.out
     ·omega
     have c1:=(hB.cell (p:=⟨bb,bo+i*3+1,none⟩) hb).trans (hcc i 1 hi tO)
     simp only [eT,C3.val] at c1
     clear hcc
     have he:elemOf c.cells (l.getD k 0)=(c.cells.getD i ⟨0,0,0⟩).e:=by rw [hxi];simp [elemOf]
     have Nz:=Lib.hid he
     generalize (c.cells.getD i ⟨0,0,0⟩).e=ev at c1 Nz
     clear he
     have cl:=hL.cell (i:=k) (j:=0) hlt tO
     simp only [Nat.add_zero,Nat.mul_one,kf,Nat.lt_irrefl,if_false,fP,hxi] at cl
     have f1:=hL.frozen
     have HX:=Lib.hid hxi
     clear hxi
     have hk0:(0:Int)≤(k:Int):=by omega
     have hk1:(k:Int)<(l.length:Int):=by omega
     have Pe:(0:Int)≤(i:Int):=by omega
     have hin1:(i:Int)<(c.cells.length:Int):=by omega
     have hne:w.heap.size≠g:=by omega
     have hbg:bb≠g:=by omega
     go_wp2
     go_roundw
     case rel=>exact ⟨k+1,by omega,by go_num,(hL.set1 hlt (.int .i64 ev)).congr (fun i j _ _=>Lh Nz.out i j),(World.cell?_setCell_other _ _ _ _ (fun e=>by simp at e)).trans x4,by exact zB⟩
     case measure=>simp [intOf];omega
    ·have:k=l.length:=by omega
     subst this
     go_wp2
     go_ret
     exact ⟨⟨.slice (some ⟨g,0,none⟩) l.length cap,rfl,.inr ⟨g,cap,by rw [HK.out],by omega,by rw [HK.out];exact hL.congr HE.out⟩⟩,hB⟩
 ·have e1:ik c 2=[]:=by simp [ik,hc]
  have e2:keptIn c=[]:=by simp [keptIn,hc]
  rw [e1] at hN
  have HV:Hid (keptIn c=[]):=e2
  clear hb1 e1 e2 hc
  obtain ⟨va,vc,rfl,_⟩:=hN.seg
  go_wp2_with fail
  go_loopw [10] (fun i wr=>i=.int .i64 0∧wr=w1) (fun i _=>0 - (intOf i).toNat)
  case atStart=>exact ⟨rfl,rfl⟩
  case round =>
   obtain ⟨rfl,rfl⟩:=hrel
   go_wp2
   go_ret
   exact ⟨⟨_,rfl,HV.out ▸ hN.more tO⟩,hB1⟩
end
end Go.Proofs.YtffhjmepfojhnaaGreat
