/-
  How a channel is opened that is an argument of a law; no condition but that it can be read.
  How a call is opened that is an argument of a law; no condition but that it can be read.
  How a hand is opened that is an argument of a law; no condition but that it can be read.
  How a world is opened that is an argument of a law; no condition but that it can be read.
  FnExactParkedIn returns true for every world that it is called with, and turns nothing; no condition.
-/
import Derived.Test.YtmnpgkcdfielbaaGreatP22
import Derived.Test.YtmnpgkcdfielbaaGreatP02
import Derived.Test.YtmnpgkcdfielbaaGreatP17
import Derived.Test.YtmnpgkcdfielbaaGreatP20
set_option maxRecDepth 100000
set_option linter.unusedSimpArgs false
set_option linter.unusedVariables false
namespace Go.Proofs.YtmnpgkcdfielbaaGreat
open Go.ChangeShapes Go.WideShapes Go.ChangeAt Go.RowKit Go.Deep
section
variable {H:Type} {enc:TypeId × Value→H} {w:World} {spare:Nat→Bool} {held:Bool}
theorem dInt (fuel:Nat) (cs:List Value) (x:DataW H × List MemPlace) (hx:DataW.trod enc Tryz.prog w 0 spare held fuel 2 cs=some x) :
    ∃ c:Int,(Lit.int .i64 c).wf=true∧∀ j,j<1→cs[j]?=some (Value.int .i64 c):=by
  obtain ⟨c,rfl,_,hw⟩:=DataW.trod_int Tryz.underlying2 hx
  refine ⟨c,hw,fun j hj=>?_⟩
  have:j=0:=by omega
  subst this;rfl
end
end Go.Proofs.YtmnpgkcdfielbaaGreat
set_option maxRecDepth 100000
set_option linter.unusedSimpArgs false
set_option linter.unusedVariables false
namespace Go.Proofs.YtmnpgkcdfielbaaGreat
open Go.ChangeShapes Go.WideShapes Go.ChangeAt Go.RowKit Go.Deep
section
variable {H:Type} {enc:TypeId × Value→H} {w:World} {spare:Nat→Bool} {held:Bool}
end
end Go.Proofs.YtmnpgkcdfielbaaGreat
set_option maxRecDepth 100000
set_option linter.unusedSimpArgs false
set_option linter.unusedVariables false
namespace Go.Proofs.YtmnpgkcdfielbaaGreat
open Go.ChangeShapes Go.WideShapes Go.ChangeAt Go.RowKit Go.Deep
section
variable {H:Type} {enc:TypeId × Value→H} {w:World} {spare:Nat→Bool} {held:Bool}
theorem dCallL (fuel:Nat) (cs:List Value) (x:DataW H × List MemPlace) (h:DataW.trod enc Tryz.prog w 0 spare held fuel 79 cs=some x) :
    ∃ k e:Int,cs[0]?=some (.int .i64 k)∧cs[1]?=some (.int .i64 e):=by
  obtain ⟨_,g,hg⟩:=dInts Tryz.underlying79 (by kernel_rfl) (by kernel_rfl) h
  exact ⟨g 0,g 1,(hg 0 (by decide)).1,(hg 1 (by decide)).1⟩
theorem dIntL (fuel:Nat) (cs:List Value) (x:DataW H × List MemPlace) (hx:DataW.trod enc Tryz.prog w 0 spare held fuel 2 cs=some x):∃ c:Int,cs[0]?=some (Value.int .i64 c):=by
  obtain ⟨c,rfl,_,_⟩:=DataW.trod_int Tryz.underlying2 hx
  exact ⟨c,rfl⟩
set_option maxRecDepth 100000 in
theorem dHand (fuel:Nat) (cs:List Value) (x:DataW H × List MemPlace) (h:DataW.trod enc Tryz.prog w 0 spare held fuel 81 cs=some x) :
    ∃ y:Ha,∀ j,j<14→cs[j]?=(hvals y)[j]?:=by
  obtain ⟨xs,n,_,_,hlen,hxl,hg⟩:=DataW.trod_struct Tryz.underlying81 h
  have c2:Tryz.prog.cellsOf 2=1:=by kernel_rfl
  have c3:Tryz.prog.cellsOf 79=2:=by kernel_rfl
  have g0:=hg 0 _ rfl
  have g1:=hg 1 _ rfl
  have g2:=hg 2 _ rfl
  have g3:=hg 3 _ rfl
  have g4:=hg 4 _ rfl
  have g5:=hg 5 _ rfl
  have g6:=hg 6 _ rfl
  have g7:=hg 7 _ rfl
  have g8:=hg 8 _ rfl
  have g9:=hg 9 _ rfl
  have g10:=hg 10 _ rfl
  have g11:=hg 11 _ rfl
  have g12:=hg 12 _ rfl
  rw [List.getElem?_eq_getElem (by simp at hxl;omega)] at g0 g1 g2 g3 g4 g5 g6 g7 g8 g9 g10 g11 g12
  obtain ⟨x0,e0⟩:=dIntL _ _ _ g0
  obtain ⟨k,e,ek,ee⟩:=dCallL _ _ _ g1
  obtain ⟨x2,e2⟩:=dIntL _ _ _ g2
  obtain ⟨x3,e3⟩:=dIntL _ _ _ g3
  obtain ⟨x4,e4⟩:=dIntL _ _ _ g4
  obtain ⟨x5,e5⟩:=dIntL _ _ _ g5
  obtain ⟨x6,e6⟩:=dIntL _ _ _ g6
  obtain ⟨x7,e7⟩:=dIntL _ _ _ g7
  obtain ⟨x8,e8⟩:=dIntL _ _ _ g8
  obtain ⟨x9,e9⟩:=dIntL _ _ _ g9
  obtain ⟨x10,e10⟩:=dIntL _ _ _ g10
  obtain ⟨x11,e11⟩:=dIntL _ _ _ g11
  obtain ⟨x12,e12⟩:=dIntL _ _ _ g12
  simp [c2,c3,List.getElem?_take,List.getElem?_drop] at e0 ek ee e2 e3 e4 e5 e6 e7 e8 e9 e10 e11 e12
  refine ⟨⟨x0,k,e,x2,x3,x4,x5,x6,x7,x8,x9,x10,x11,x12⟩,fun j hj=>?_⟩
  have hj2:j=0∨j=1∨j=2∨j=3∨j=4∨j=5∨j=6∨j=7∨j=8∨j=9∨j=10∨j=11∨j=12∨j=13:=by omega
  rcases hj2 with rfl|rfl|rfl|rfl|rfl|rfl|rfl|rfl|rfl|rfl|rfl|rfl|rfl|rfl
  · exact e0
  · exact ek
  · exact ee
  · exact e2
  · exact e3
  · exact e4
  · exact e5
  · exact e6
  · exact e7
  · exact e8
  · exact e9
  · exact e10
  · exact e11
  · exact e12
end
end Go.Proofs.YtmnpgkcdfielbaaGreat
set_option maxRecDepth 100000
set_option linter.unusedSimpArgs false
set_option linter.unusedVariables false
namespace Go.Proofs.YtmnpgkcdfielbaaGreat
open Go.ChangeShapes Go.WideShapes Go.ChangeAt Go.RowKit Go.Deep
section
variable {H:Type} {enc:TypeId × Value→H} {w:World} {spare:Nat→Bool} {held:Bool}
theorem dDeal (fuel:Nat) (cs:List Value) (x:DataW H × List MemPlace) (h:DataW.trod enc Tryz.prog w 0 spare held fuel 84 cs=some x) :
    ∃ y:De,True∧∀ j,j<7→cs[j]?=some ((dvals y).getD j (.int .i64 0)):=by
  obtain ⟨xs,n,_,_,hlen,hxl,hg⟩:=DataW.trod_struct Tryz.underlying84 h
  have c2:Tryz.prog.cellsOf 2=1:=by kernel_rfl
  have c3:Tryz.prog.cellsOf 79=2:=by kernel_rfl
  have g0:=hg 0 _ rfl
  have g1:=hg 1 _ rfl
  have g2:=hg 2 _ rfl
  have g3:=hg 3 _ rfl
  have g4:=hg 4 _ rfl
  have g5:=hg 5 _ rfl
  rw [List.getElem?_eq_getElem (by simp at hxl;omega)] at g0 g1 g2 g3 g4 g5
  obtain ⟨x0,e0⟩:=dIntL _ _ _ g0
  obtain ⟨k,e,ek,ee⟩:=dCallL _ _ _ g1
  obtain ⟨x2,e2⟩:=dIntL _ _ _ g2
  obtain ⟨x3,e3⟩:=dIntL _ _ _ g3
  obtain ⟨x4,e4⟩:=dIntL _ _ _ g4
  obtain ⟨x5,e5⟩:=dIntL _ _ _ g5
  simp [c2,c3,List.getElem?_take,List.getElem?_drop] at e0 ek ee e2 e3 e4 e5
  refine ⟨⟨x0,k,e,x2,x3,x4,x5⟩,trivial,fun j hj=>?_⟩
  have hj2:j=0∨j=1∨j=2∨j=3∨j=4∨j=5∨j=6:=by omega
  rcases hj2 with rfl|rfl|rfl|rfl|rfl|rfl|rfl
  · exact e0
  · exact ek
  · exact ee
  · exact e2
  · exact e3
  · exact e4
  · exact e5
theorem dHandS (fuel:Nat) (cs:List Value) (x:DataW H × List MemPlace) (h:DataW.trod enc Tryz.prog w 0 spare held fuel 81 cs=some x) :
    ∃ y:Ha,True∧∀ j,j<14→cs[j]?=some ((hvals y).getD j (.int .i64 0)):=by
  obtain ⟨y,hy⟩:=dHand _ _ _ h
  refine ⟨y,trivial,fun j hj=>?_⟩
  rw [hy j hj]
  simp [Array.getD,hv_size,hj]
theorem dChanS (fuel:Nat) (cs:List Value) (x:DataW H × List MemPlace) (h:DataW.trod enc Tryz.prog w 0 spare held fuel 25 cs=some x) :
    ∃ (c:Ch) (a b:Option Addr) (p q:Nat),cs=[.int .i64 c.cap,.int .i64 c.sent,.int .i64 c.got,.int .i64 c.fin,.slice a c.cells.length p,.slice b c.words.length q]∧c.cells.length≤maxLen∧c.words.length≤maxLen ∧
      Seg w w.heap.size a c.cells.length 3 (cellF c.cells)∧Seg w w.heap.size b c.words.length 1 (intF c.words):=by
  obtain ⟨xs,n,_,_,hlen,hxl,hg⟩:=DataW.trod_struct Tryz.underlying25 h
  have h3:Tryz.prog.cellsOf 25=6:=by kernel_rfl
  have hs:cs.length=6:=hlen.trans h3
  match cs,hs with
  | [v0,v1,v2,v3,v4,v5],_ =>
    have c2:Tryz.prog.cellsOf 2=1:=by kernel_rfl
    have c4:Tryz.prog.cellsOf 22=1:=by kernel_rfl
    have c5:Tryz.prog.cellsOf 23=1:=by kernel_rfl
    have g0:=hg 0 _ rfl
    have g1:=hg 1 _ rfl
    have g2:=hg 2 _ rfl
    have g3:=hg 3 _ rfl
    have g4:=hg 4 _ rfl
    have g5:=hg 5 _ rfl
    rw [List.getElem?_eq_getElem (by simp at hxl;omega)] at g0 g1 g2 g3 g4 g5
    obtain ⟨x0,_,e0⟩:=dInt _ _ _ g0
    obtain ⟨x1,_,e1⟩:=dInt _ _ _ g1
    obtain ⟨x2,_,e2⟩:=dInt _ _ _ g2
    obtain ⟨x3,_,e3⟩:=dInt _ _ _ g3
    obtain ⟨a,cells,p,e4,m1,m2,_,s1⟩:=dSlice 3 C3.val C3.wf ⟨0,0,0⟩ Tryz.underlying22 (by kernel_rfl) (by decide) dCell g4
    obtain ⟨b,words,q,e5,m3,m4,_,s2⟩:=dSlice 1 (fun (c:Int) _=>.int .i64 c) (fun c=>(Lit.int .i64 c).wf=true) 0 Tryz.underlying23 (by kernel_rfl) (by decide) dInt g5
    replace e0:=e0 0 (by omega)
    replace e1:=e1 0 (by omega)
    replace e2:=e2 0 (by omega)
    replace e3:=e3 0 (by omega)
    simp [c2,Value.cells] at e0 e1 e2 e3
    simp [c4,Value.cells] at e4
    simp [c5,Value.cells] at e5
    subst e0 e1 e2 e3 e4 e5
    exact ⟨⟨x0,x1,x2,x3,cells,words⟩,a,b,p,q,rfl,Nat.le_trans m1 m2,Nat.le_trans m3 m4,s1,s2⟩
/-- A world as an argument. -/
theorem oWorld {r:Reach} {b0:Nat} {v:Value} {d:DataW H} {pl:List MemPlace} (hv:Value.okWide Tryz.prog w r b0 29 v) (h:DataW.Trod enc Tryz.prog w 0 spare held 29 v d pl) :
    ∃ (x:Wo) (a b d e:Option Addr) (p q r s:Nat),v=.agg #[.int .i64 x.ch.cap,.int .i64 x.ch.sent,.int .i64 x.ch.got,.int .i64 x.ch.fin,.slice a x.ch.cells.length p,.slice b x.ch.words.length q,.slice d x.hands.length r,.slice e x.deals.length s,.int .i64 x.now]∧(x.ch.cells.length≤maxLen∧x.ch.words.length≤maxLen∧x.hands.length≤maxLen∧x.deals.length≤maxLen)∧SegW w w.heap.size x a b d e:=by
  obtain ⟨cs,rfl,hsz⟩:=okWide_struct Tryz.underlying29 hv
  obtain ⟨l⟩:=cs
  have h3:Tryz.prog.cellsOf 29=9:=by kernel_rfl
  have hs:l.length=9:=by simpa [h3] using hsz
  obtain ⟨fuel,hf⟩:=h
  obtain ⟨xs,n,_,_,hlen,hxl,hg⟩:=DataW.trod_struct Tryz.underlying29 hf
  match l,hs with
  | [v0,v1,v2,v3,v4,v5,v6,v7,v8],_ =>
    have c1:Tryz.prog.cellsOf 25=6:=by kernel_rfl
    have c2:Tryz.prog.cellsOf 2=1:=by kernel_rfl
    have c4:Tryz.prog.cellsOf 26=1:=by kernel_rfl
    have c5:Tryz.prog.cellsOf 27=1:=by kernel_rfl
    have g0:=hg 0 _ rfl
    have g1:=hg 1 _ rfl
    have g2:=hg 2 _ rfl
    have g3:=hg 3 _ rfl
    rw [List.getElem?_eq_getElem (by simp at hxl;omega)] at g0 g1 g2 g3
    obtain ⟨c,a,b,p,q,e0,m1,m2,s1,s2⟩:=dChanS _ _ _ g0
    obtain ⟨a3,hands,p3,e1,k1,k2,_,s3⟩:=dSlice 14 (fun y j=>(hvals y).getD j (.int .i64 0)) (fun _=>True) Ha.zero Tryz.underlying26 (by kernel_rfl) (by decide) dHandS g1
    obtain ⟨a4,deals,p4,e2,k3,k4,_,s4⟩:=dSlice 7 (fun y j=>(dvals y).getD j (.int .i64 0)) (fun _=>True) De.zero Tryz.underlying27 (by kernel_rfl) (by decide) dDeal g2
    obtain ⟨x3,_,e3⟩:=dInt _ _ _ g3
    replace e3:=e3 0 (by omega)
    simp [c1,Value.cells] at e0
    simp [c4,Value.cells] at e1
    simp [c5,Value.cells] at e2
    simp [c2,Value.cells] at e3
    obtain ⟨rfl,rfl,rfl,rfl,rfl,rfl⟩:=e0
    subst e1 e2 e3
    exact ⟨⟨c,hands,deals,x3⟩,a,b,a3,a4,p,q,p3,p4,rfl,⟨m1,m2,Nat.le_trans k1 k2,Nat.le_trans k3 k4⟩,s1,s2,s3,s4⟩
end
end Go.Proofs.YtmnpgkcdfielbaaGreat
set_option linter.unusedSimpArgs false
set_option linter.unusedVariables false
namespace Go.Proofs.YtmnpgkcdfielbaaGreat
open Go.ChangeShapes Go.WideShapes Go.ChangeAt Go.RowKit
set_option linter.unusedVariables false
theorem parkedIn_len (x:Wo) (m:LenW x):(parkedIn x).length≤1048576:=by
  have h:=m.2.2.1
  unfold parkedIn
  split
  · have:=parkTo_len x x.hands.length
    omega
  · simp
theorem sParkedInW (x:Wo) (m:LenW x) (a b d e:Option Addr) (p q r s:Nat) (w:World) (h:SegW w w.heap.size x a b d e) (z:NoneW x a b d e p q r s) :
    Calls Tryz.prog 5 #[.agg (wvals x (.slice a x.ch.cells.length p) (.slice b x.ch.words.length q) (.slice d x.hands.length r) (.slice e x.deals.length s))] w fun r' w'=>(∃ v,r'=.returned v∧OInts w' w.heap.size v (parkedIn x))∧Below w.heap.size w w' :=
  sParkedIn_any x a b d e p q r s w h.1 z.1 h.2.1 z.2.1 h.2.2.1 h.2.2.2 (by have:=m.1;omega) (by have:=m.2.2.1;omega) (by have:=m.2.2.2;omega)
theorem iParkedInW (x:Wo) (m:LenW x) (a b d e:Option Addr) (p q r s:Nat) (w:World) (h:SegW w w.heap.size x a b d e) (z:NoneW x a b d e p q r s) :
    Calls Tryz.prog 7 #[.agg (wvals x (.slice a x.ch.cells.length p) (.slice b x.ch.words.length q) (.slice d x.hands.length r) (.slice e x.deals.length s))] w fun r' w'=>(∃ v,r'=.returned v∧OInts w' w.heap.size v (parkedIn x))∧Below w.heap.size w w' :=
  parkedInI_any x a b d e p q r s w h z m
namespace FnExactParkedIn
set_option maxRecDepth 100000 in
theorem lifted (os:Os) (started:os.Started) (H:Type) (enc:TypeId × Value→H) :
    ReturnsInHanded {} Tryz.checked os 3 .any (Rows.fnExactParkedInSpec.pre6 enc Tryz.prog Tryz.f3 Rows.fnExactParkedInRow.domain false) (Rows.fnExactParkedInSpec.post enc Tryz.prog Tryz.f3 false true false false):=by
  refine returnsInHanded_of_change (C:=Tryz.checked) own started (by kernel_rfl) Tryz.func3
    (ChangeSpec.witness6 (enc:=enc) (C:=Tryz.checked) false ⟨#[],#[.agg #[.int .i64 0,.int .i64 0,.int .i64 0,.int .i64 0,.slice none 0 0,.slice none 0 0,.slice none 0 0,.slice none 0 0,.int .i64 0]],[]⟩ 8 (by kernel_rfl) (by kernel_rfl) (by kernel_rfl) (by kernel_rfl)) ?_
  intro W base args ds gs before hval0 hW hcnd _
  have hval:∀ (j:Nat) t v,Tryz.f3.params[j]?=some t→args[j]?=some v→Value.okWide Tryz.prog W .any base t v:=hval0
  have hW':=hW
  obtain ⟨p,q,hA0,hV,rfl,hfz,hnd⟩:=hW
  have hA:DataW.TrodAll enc Tryz.prog W 0 (fun _=>true) true Tryz.f3.params.toList args.toList ds p:=hA0
  rw [Tryz.params3] at hA hval
  obtain ⟨v0,vs0,d0,ds0,p0,q0,hargs,rfl,rfl,h0,r0⟩:=trodAll_cons hA
  obtain ⟨rfl,rfl,rfl⟩:=trodAll_nil r0
  obtain rfl:args=#[v0]:=by cases args;simp_all
  obtain ⟨rfl,rfl⟩:=trodVars_none hV
  have k0:=h0
  have lt0:∀ x ∈ p0,x.block<W.heap.size:=by obtain ⟨m,hm⟩:=k0;exact DataW.trod_lt m _ _ _ hm
  obtain ⟨x0w,sa0,sb0,sd0,se0,sp0,sq0,sr0,ss0,rfl,m0,S0⟩:=oWorld (hval 0 29 v0 rfl rfl) h0
  clear hA0 hval0
  refine (exactParkedIn_any x0w (parkedIn x0w) (parkedIn_len x0w) sa0 sb0 sd0 se0 sp0 sq0 sr0 ss0 W S0 m0 (sParkedInW x0w) (iParkedInW x0w)).mono fun e W' ⟨he,bel⟩=>?_
  subst he
  exact ⟨_,rfl,_,_,_,[],_,[],hW',trodAll_mk1 (shut_bool Tryz.underlying4 _),(trodAll_cons_mk (Below.trod laidOut (by kernel_rfl) (of_decide_eq_true (by kernel_rfl)) k0 bel lt0) trodAll_mk0),rfl,bel.frame _,fun h=>by cases h⟩
theorem over:Rows.fnExactParkedInRow.holds Tryz.pinned (OpenSpec.ofChange Rows.fnExactParkedInSpec) :=
  OpenClaim.holds_of_wide 3 Tryz.f3 rfl rfl rfl rfl rfl rfl rfl ⟨rfl,rfl,rfl,rfl,rfl⟩ rfl rfl rfl rfl rfl (by kernel_rfl) Tryz.func3 (by kernel_rfl)
    (of_decide_eq_true (by kernel_rfl)) (by unfold Func.isWrapper;first|(rw [if_pos (by decide +kernel)];kernel_rfl)|(rw [if_neg (by decide +kernel)];exact ⟨rfl,rfl⟩))
    (fun os started H enc _=>lifted os started H enc)
end FnExactParkedIn
/-- The statement. -/
theorem fnExactParkedIn_proved:Rows.FnExactParkedInSaid:=FnExactParkedIn.over

end Go.Proofs.YtmnpgkcdfielbaaGreat
