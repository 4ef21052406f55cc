/-
  How the arguments of the laws are opened: numbers, structs of numbers, and slices of these; no condition but that they can be read.
  How a list of bytes is opened that is an argument of a law; no condition but that it can be read.
  FnHands returns true for every list of bytes that it is called with, and turns nothing; no condition.
-/
import Derived.Test.YtlfcgeoifmnjnaaRows
import Derived.Test.YtlfcgeoifmnjnaaP02
import Derived.Test.YtlfcgeoifmnjnaaP01
import Derived.ProofKit
import Derived.OpenShut
import Derived.ShutString
import Derived.ChangeOld
import Derived.Deep.Slices
import Derived.Deep.Fields
import Derived.Test.YtlfcgeoifmnjnaaP17
set_option linter.unusedSimpArgs false
set_option linter.unusedVariables false
namespace Go.Proofs.Ytlfcgeoifmnjnaa
open Go.ChangeShapes Go.WideShapes Go.ChangeAt Go.RowKit Go.Deep
theorem own:ownKnob Try.prog.godebug=none:=by kernel_rfl
theorem laidOut:laidOutB Try.prog=true:=by kernel_rfl
section
variable {H:Type} {enc:TypeId × Value→H} {P:Program} {w:World} {spare:Nat→Bool} {held:Bool}
/-- A slice of elements that can be read lies in memory as said. -/
theorem dSlice {α:Type} (k:Nat) (val:α→Nat→Value) (Q:α→Prop) (d0:α) {t e:TypeId} (ht:P.underlying t=some (.slice e)) (hk:P.cellsOf e=k) (hk0:0<k)
    (dec:∀ (fuel:Nat) (cs:List Value) (x:DataW H × List MemPlace),DataW.trod enc P w 0 spare held fuel e cs=some x→∃ c:α,Q c∧∀ j,j<k→cs[j]?=some (val c j))
    {fuel:Nat} {cs:List Value} {x:DataW H × List MemPlace} (h:DataW.trod enc P w 0 spare held fuel t cs=some x) :
    ∃ (a:Option Addr) (l:List α) (cap:Nat),cs=[.slice a l.length cap]∧l.length≤cap∧cap≤maxLen∧(∀ c ∈ l,Q c)∧Seg w w.heap.size a l.length k (fun i j=>val (l.getD i d0) j):=by
  rcases open_slice ht h with ⟨hcs,_⟩|⟨ad,len,cap,m,n,D,Pl,hcs,_,hl,hm,hmm,_,hi⟩
  · exact ⟨none,[],0,hcs,Nat.le_refl _,Nat.zero_le _,by simp,.inl rfl⟩
  · have hlm:len≤m:=by rw [hmm];split <;> omega
    have hx:∀ i:Nat,∃ c:α,i<len→(Q c∧∀ j,j<k→w.cell? (ad.add (i*k+j))=some (val c j)):=by
      intro i
      by_cases hlt:i<len
      · obtain ⟨cs',hc,htr⟩:=hi i (by omega)
        rw [hk] at hc
        obtain ⟨_,_,hat⟩:=World.cells?_some hc
        obtain ⟨c,hq,hv⟩:=dec _ _ _ htr
        refine ⟨c,fun _=>⟨hq,fun j hj=>?_⟩⟩
        rw [← Go.Deep.add_add,hat j hj,hv j hj]
      · exact ⟨d0,fun h=>absurd h hlt⟩
    obtain ⟨g,hg⟩:=Classical.axiomOfChoice hx
    refine ⟨some ad,(List.range len).map g,cap,by simpa using hcs,by simpa using hl,hm,?_,?_⟩
    · intro c hc
      obtain ⟨i,hi',rfl⟩:=List.mem_map.1 hc
      exact (hg i (List.mem_range.1 hi')).1
    · by_cases h0:len=0
      · exact .inl (by simpa using h0)
      · obtain ⟨b,off,spot⟩:=ad
        have hz:=(hg 0 (by omega)).2 0 hk0
        have hspot:spot=none:=by simpa [Addr.add] using World.cell?_spot hz
        subst hspot
        refine .inr ⟨b,off,rfl,?_,fun i j hi' hj=>?_⟩
        · have:=block_lt_of_cell hz
          simpa [Addr.add] using this
        · have hlt:i<len:=by simpa using hi'
          have:=(hg i hlt).2 j hj
          rw [add_plain,← Nat.add_assoc] at this
          rw [this]
          simp [List.getD,hlt]
end
/-- Every field is one int64, in its place. -/
def allInts (P:Program) (fs:Array Field):Bool:=fs.toList.zipIdx.all fun (f,i)=>decide (f.offset=i) && decide (P.cellsOf f.type=1) && (match P.underlying f.type with|some (.int .i64)=>true|_=>false)
theorem allInts_at {P:Program} {fs:Array Field} (h:allInts P fs=true) {j:Nat} {f:Field} (hj:fs[j]?=some f):f.offset=j∧P.cellsOf f.type=1∧P.underlying f.type=some (.int .i64):=by
  have hm:(f,j) ∈ fs.toList.zipIdx:=by
    rw [List.mem_zipIdx_iff_getElem?]
    simpa using hj
  have:=List.all_eq_true.1 h _ hm
  simp only [Bool.and_eq_true,decide_eq_true_eq] at this
  refine ⟨this.1.1,this.1.2,?_⟩
  have h2:=this.2
  split at h2
  · assumption
  · cases h2
section
variable {H:Type} {enc:TypeId × Value→H} {P:Program} {w:World} {spare:Nat→Bool} {held:Bool}
theorem dInts {t:TypeId} {fs:Array Field} (ht:P.underlying t=some (.struct fs)) (hall:allInts P fs=true) (hC:P.cellsOf t=fs.size)
    {fuel:Nat} {cs:List Value} {x:DataW H × List MemPlace} (h:DataW.trod enc P w 0 spare held fuel t cs=some x) :
    cs.length=fs.size∧∃ g:Nat→Int,∀ j,j<fs.size→(cs[j]?=some (.int .i64 (g j))∧(Lit.int .i64 (g j)).wf=true):=by
  obtain ⟨xs,n,_,_,hlen,hxl,hf⟩:=DataW.trod_struct ht h
  have hx:∀ j:Nat,∃ a:Int,j<fs.size→(cs[j]?=some (.int .i64 a)∧(Lit.int .i64 a).wf=true):=by
    intro j
    by_cases hj:j<fs.size
    · obtain ⟨h1,h2,h3⟩:=allInts_at hall (Array.getElem?_eq_getElem hj)
      have g:=hf j _ (Array.getElem?_eq_getElem hj)
      rw [h1,h2,List.getElem?_eq_getElem (by omega)] at g
      obtain ⟨a,ea,_,wa⟩:=DataW.trod_int h3 g
      refine ⟨a,fun _=>⟨?_,wa⟩⟩
      have e:=congrArg (fun l:List Value=>l[0]?) ea
      simpa [List.getElem?_take,List.getElem?_drop] using e
    · exact ⟨0,fun h=>absurd h hj⟩
  obtain ⟨g,hg⟩:=Classical.axiomOfChoice hx
  exact ⟨hlen.trans hC,g,hg⟩
end
def C3.wf (c:C3):Prop:=(Lit.int .i64 c.s).wf=true∧(Lit.int .i64 c.e).wf=true∧(Lit.int .i64 c.t).wf=true
section
variable {H:Type} {enc:TypeId × Value→H} {w:World} {spare:Nat→Bool} {held:Bool}
end
end Go.Proofs.Ytlfcgeoifmnjnaa
set_option linter.unusedSimpArgs false
set_option linter.unusedVariables false
namespace Go.Proofs.Ytlfcgeoifmnjnaa
open Go.ChangeShapes Go.WideShapes Go.ChangeAt Go.RowKit Go.Deep
section
variable {H:Type} {enc:TypeId × Value→H} {w:World} {spare:Nat→Bool} {held:Bool}
set_option maxRecDepth 100000 in
/-- Bytes as an argument. -/
theorem oBytes {r:Reach} {b0:Nat} {v:Value} {d:DataW H} {p:List MemPlace} (hv:Value.okWide Try.prog w r b0 22 v) (h:DataW.Trod enc Try.prog w 0 spare held 22 v d p) :
    ∃ (a:Option Addr) (n cap:Nat) (bs:Nat→Int),v=.slice a n cap∧n≤maxLen∧(∀ j,0≤bs j∧bs j≤255)∧Seg w w.heap.size a n 1 (fun j _=>.int .u8 (bs j)):=by
  obtain ⟨a,len,cap,rfl⟩:=okWide_slice Try.underlying22 hv
  obtain ⟨fuel,hf⟩:=h
  obtain ⟨a',l,cap',hcs,h1,h2,h3,h4⟩:=dSlice 1 (fun (c:Int) _=>.int .u8 c) (fun c=>0≤c∧c≤255) 0 Try.underlying22 (by kernel_rfl) (by decide) (fun fuel cs x hx=>by
    obtain ⟨c,rfl,_,hw⟩:=DataW.trod_int Try.underlying5 hx
    refine ⟨c,?_,fun j hj=>?_⟩
    · simp [Lit.wf,IntKind.min,IntKind.max,IntKind.signed,IntKind.bits] at hw;omega
    · have:j=0:=by omega
      subst this;rfl) hf
  simp [Value.cells] at hcs
  obtain ⟨rfl,rfl,rfl⟩:=hcs
  refine ⟨a,l.length,cap,fun j=>l.getD j 0,rfl,Nat.le_trans h1 h2,fun j=>?_,h4⟩
  by_cases hj:j<l.length
  · have:=h3 l[j] (List.getElem_mem hj)
    simpa [List.getD,hj] using this
  · have:l.getD j 0=0:=by simp [List.getD,Nat.le_of_not_lt hj]
    show 0≤l.getD j 0∧l.getD j 0≤255
    rw [this];omega
end
end Go.Proofs.Ytlfcgeoifmnjnaa
set_option linter.unusedSimpArgs false
set_option linter.unusedVariables false
namespace Go.Proofs.Ytlfcgeoifmnjnaa
open Go.ChangeShapes Go.WideShapes Go.ChangeAt Go.RowKit
set_option linter.unusedVariables false
namespace FnHands
set_option maxRecDepth 100000 in
theorem lifted (os:Os) (started:os.Started) (H:Type) (enc:TypeId × Value→H) :
    ReturnsInHanded {} Try.checked os 3 .any (Rows.fnHandsSpec.pre6 enc Try.prog Try.f3 Rows.fnHandsRow.domain false) (Rows.fnHandsSpec.post enc Try.prog Try.f3 false true false false):=by
  refine returnsInHanded_of_change (C:=Try.checked) own started (by kernel_rfl) Try.func3
    (ChangeSpec.witness6 (enc:=enc) (C:=Try.checked) false ⟨#[],#[.slice none 0 0],[]⟩ 8 (by kernel_rfl) (by kernel_rfl) (by kernel_rfl) (by kernel_rfl)) ?_
  intro W base args ds gs before hval0 hW hcnd _
  have hval:∀ (j:Nat) t v,Try.f3.params[j]?=some t→args[j]?=some v→Value.okWide Try.prog W .any base t v:=hval0
  have hW':=hW
  obtain ⟨p,q,hA0,hV,rfl,hfz,hnd⟩:=hW
  have hA:DataW.TrodAll enc Try.prog W 0 (fun _=>true) true Try.f3.params.toList args.toList ds p:=hA0
  rw [Try.params3] at hA hval
  obtain ⟨v0,vs0,d0,ds0,p0,q0,hargs,rfl,rfl,h0,r0⟩:=trodAll_cons hA
  obtain ⟨rfl,rfl,rfl⟩:=trodAll_nil r0
  obtain rfl:args=#[v0]:=by cases args;simp_all
  obtain ⟨rfl,rfl⟩:=trodVars_none hV
  have k0:=h0
  have lt0:∀ x ∈ p0,x.block<W.heap.size:=by obtain ⟨m,hm⟩:=k0;exact DataW.trod_lt m _ _ _ hm
  obtain ⟨a0,n0,cap0,l0,rfl,m0,z0,S0⟩:=oBytes (hval 0 22 v0 rfl rfl) h0
  clear hA0 hval0
  refine (fnHands_any n0 cap0 a0 l0 W z0 S0).mono fun e W' ⟨he,bel⟩=>?_
  subst he
  exact ⟨_,rfl,_,_,_,[],_,[],hW',trodAll_mk1 (shut_bool Try.underlying4 _),(trodAll_cons_mk (Below.trod laidOut (by kernel_rfl) (of_decide_eq_true (by kernel_rfl)) k0 bel lt0) trodAll_mk0),rfl,bel.frame _,fun h=>by cases h⟩
theorem over:Rows.fnHandsRow.holds Try.pinned (OpenSpec.ofChange Rows.fnHandsSpec) :=
  OpenClaim.holds_of_wide 3 Try.f3 rfl rfl rfl rfl rfl rfl rfl ⟨rfl,rfl,rfl,rfl,rfl⟩ rfl rfl rfl rfl rfl (by kernel_rfl) Try.func3 (by kernel_rfl)
    (of_decide_eq_true (by kernel_rfl)) (by unfold Func.isWrapper;first|(rw [if_pos (by decide +kernel)];kernel_rfl)|(rw [if_neg (by decide +kernel)];exact ⟨rfl,rfl⟩))
    (fun os started H enc _=>lifted os started H enc)
end FnHands
/-- The statement. -/
theorem fnHands_proved:Rows.FnHandsSaid:=FnHands.over

end Go.Proofs.Ytlfcgeoifmnjnaa
