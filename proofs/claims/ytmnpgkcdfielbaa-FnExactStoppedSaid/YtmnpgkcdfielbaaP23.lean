/-
  The contracts of Stopped in the form that the law's walk asks for; lists of at most 1048576 elements.
  How the arguments of the laws are opened: numbers, structs of numbers, and slices of these; no condition but that they can be read.
  How a channel is opened that is an argument of a law; no condition but that it can be read.
-/
import Derived.Test.YtmnpgkcdfielbaaP14
import Derived.Test.YtmnpgkcdfielbaaP21
import Derived.Test.YtmnpgkcdfielbaaP22
import Derived.Test.YtmnpgkcdfielbaaRows
import Derived.Test.YtmnpgkcdfielbaaP01
import Derived.Test.YtmnpgkcdfielbaaP02
import Derived.ProofKit
import Derived.OpenShut
import Derived.ShutString
import Derived.ChangeOld
import Derived.Deep.Slices
import Derived.Deep.Fields
set_option linter.unusedSimpArgs false
set_option linter.unusedVariables false
namespace Go.Proofs.Ytmnpgkcdfielbaa
open Go.RowKit
theorem sStoppedW (x:Wo) (who:Int) (m:LenW x) (a b d e:Option Addr) (p q r s:Nat) (w:World) (h:SegW w w.heap.size x a b d e) (z:NoneW x a b d e p q r s) :
    Calls Try.prog 5 #[.agg (wvals x (.slice a x.ch.cells.length p) (.slice b x.ch.words.length q) (.slice d x.hands.length r) (.slice e x.deals.length s)),.int .i64 who] w fun r' w'=>WordW w w' (stopped x who).1 (.bool (stopped x who).2) r' :=
  (sStopped_any x who a b d e p q r s w h.1 z.1 h.2.1 z.2.1 h.2.2.1 z.2.2.1 h.2.2.2 z.2.2.2 (by have:=m.1;omega) (by have:=m.2.1;omega) (by have:=m.2.2.1;omega) (by have:=m.2.2.2;omega)).mono fun _ _ g=>g.toW
theorem iStoppedW (x:Wo) (who:Int) (m:LenW x) (a b d e:Option Addr) (p q r s:Nat) (w:World) (h:SegW w w.heap.size x a b d e) (z:NoneW x a b d e p q r s) :
    Calls Try.prog 7 #[.agg (wvals x (.slice a x.ch.cells.length p) (.slice b x.ch.words.length q) (.slice d x.hands.length r) (.slice e x.deals.length s)),.int .i64 who] w fun r' w'=>WordW w w' (stopped x who).1 (.bool (stopped x who).2) r' :=
  (stoppedI_any x who a b d e p q r s w h z m).mono fun _ _ g=>g.toW
theorem stopped_len (x:Wo) (who:Int) (m:LenW x):LenW (stopped x who).1:=by
  unfold stopped
  split
  · split
    · exact m
    · refine ⟨?_,?_,m.2.2.1,m.2.2.2⟩
      · show (tellC x.ch _ 2).cells.length≤_
        rw [(tell_parts _ _ _).1];exact m.1
      · show (tellC x.ch _ 2).words.length≤_
        unfold tellC;split
        · have:=m.2.1;simp;omega
        · exact m.2.1
  · exact ⟨by simp [Wo.zero,Ch.zero],by simp [Wo.zero,Ch.zero],by simp [Wo.zero],by simp [Wo.zero]⟩
end Go.Proofs.Ytmnpgkcdfielbaa
set_option maxRecDepth 100000
set_option linter.unusedSimpArgs false
set_option linter.unusedVariables false
namespace Go.Proofs.Ytmnpgkcdfielbaa
open Go.ChangeShapes Go.WideShapes Go.ChangeAt Go.RowKit Go.Deep
theorem own:ownKnob Try.prog.godebug=none:=by kernel_rfl
theorem laidOut:laidOutB Try.prog=true:=by kernel_rfl
section
variable {H:Type} {enc:TypeId × Value→H} {P:Program} {w:World} {spare:Nat→Bool} {held:Bool}
/-- A slice of elements that can be read lies in memory as said. -/
theorem dSlice {α:Type} (k:Nat) (val:α→Nat→Value) (Q:α→Prop) (d0:α) {t e:TypeId} (ht:P.underlying t=some (.slice e)) (hk:P.cellsOf e=k) (hk0:0<k)
    (dec:∀ (fuel:Nat) (cs:List Value) (x:DataW H × List MemPlace),DataW.trod enc P w 0 spare held fuel e cs=some x→∃ c:α,Q c∧∀ j,j<k→cs[j]?=some (val c j))
    {fuel:Nat} {cs:List Value} {x:DataW H × List MemPlace} (h:DataW.trod enc P w 0 spare held fuel t cs=some x) :
    ∃ (a:Option Addr) (l:List α) (cap:Nat),cs=[.slice a l.length cap]∧l.length≤cap∧cap≤maxLen∧(∀ c ∈ l,Q c)∧Seg w w.heap.size a l.length k (fun i j=>val (l.getD i d0) j):=by
  rcases open_slice ht h with ⟨hcs,_⟩|⟨ad,len,cap,m,n,D,Pl,hcs,_,hl,hm,hmm,_,hi⟩
  · exact ⟨none,[],0,hcs,Nat.le_refl _,Nat.zero_le _,by simp,.inl rfl⟩
  · have hlm:len≤m:=by rw [hmm];split <;> omega
    have hx:∀ i:Nat,∃ c:α,i<len→(Q c∧∀ j,j<k→w.cell? (ad.add (i*k+j))=some (val c j)):=by
      intro i
      by_cases hlt:i<len
      · obtain ⟨cs',hc,htr⟩:=hi i (by omega)
        rw [hk] at hc
        obtain ⟨_,_,hat⟩:=World.cells?_some hc
        obtain ⟨c,hq,hv⟩:=dec _ _ _ htr
        refine ⟨c,fun _=>⟨hq,fun j hj=>?_⟩⟩
        rw [← Go.Deep.add_add,hat j hj,hv j hj]
      · exact ⟨d0,fun h=>absurd h hlt⟩
    obtain ⟨g,hg⟩:=Classical.axiomOfChoice hx
    refine ⟨some ad,(List.range len).map g,cap,by simpa using hcs,by simpa using hl,hm,?_,?_⟩
    · intro c hc
      obtain ⟨i,hi',rfl⟩:=List.mem_map.1 hc
      exact (hg i (List.mem_range.1 hi')).1
    · by_cases h0:len=0
      · exact .inl (by simpa using h0)
      · obtain ⟨b,off,spot⟩:=ad
        have hz:=(hg 0 (by omega)).2 0 hk0
        have hspot:spot=none:=by simpa [Addr.add] using World.cell?_spot hz
        subst hspot
        refine .inr ⟨b,off,rfl,?_,fun i j hi' hj=>?_⟩
        · have:=block_lt_of_cell hz
          simpa [Addr.add] using this
        · have hlt:i<len:=by simpa using hi'
          have:=(hg i hlt).2 j hj
          rw [add_plain,← Nat.add_assoc] at this
          rw [this]
          simp [List.getD,hlt]
end
/-- Every field is one int64, in its place. -/
def allInts (P:Program) (fs:Array Field):Bool:=fs.toList.zipIdx.all fun (f,i)=>decide (f.offset=i) && decide (P.cellsOf f.type=1) && (match P.underlying f.type with|some (.int .i64)=>true|_=>false)
theorem allInts_at {P:Program} {fs:Array Field} (h:allInts P fs=true) {j:Nat} {f:Field} (hj:fs[j]?=some f):f.offset=j∧P.cellsOf f.type=1∧P.underlying f.type=some (.int .i64):=by
  have hm:(f,j) ∈ fs.toList.zipIdx:=by
    rw [List.mem_zipIdx_iff_getElem?]
    simpa using hj
  have:=List.all_eq_true.1 h _ hm
  simp only [Bool.and_eq_true,decide_eq_true_eq] at this
  refine ⟨this.1.1,this.1.2,?_⟩
  have h2:=this.2
  split at h2
  · assumption
  · cases h2
section
variable {H:Type} {enc:TypeId × Value→H} {P:Program} {w:World} {spare:Nat→Bool} {held:Bool}
theorem dInts {t:TypeId} {fs:Array Field} (ht:P.underlying t=some (.struct fs)) (hall:allInts P fs=true) (hC:P.cellsOf t=fs.size)
    {fuel:Nat} {cs:List Value} {x:DataW H × List MemPlace} (h:DataW.trod enc P w 0 spare held fuel t cs=some x) :
    cs.length=fs.size∧∃ g:Nat→Int,∀ j,j<fs.size→(cs[j]?=some (.int .i64 (g j))∧(Lit.int .i64 (g j)).wf=true):=by
  obtain ⟨xs,n,_,_,hlen,hxl,hf⟩:=DataW.trod_struct ht h
  have hx:∀ j:Nat,∃ a:Int,j<fs.size→(cs[j]?=some (.int .i64 a)∧(Lit.int .i64 a).wf=true):=by
    intro j
    by_cases hj:j<fs.size
    · obtain ⟨h1,h2,h3⟩:=allInts_at hall (Array.getElem?_eq_getElem hj)
      have g:=hf j _ (Array.getElem?_eq_getElem hj)
      rw [h1,h2,List.getElem?_eq_getElem (by omega)] at g
      obtain ⟨a,ea,_,wa⟩:=DataW.trod_int h3 g
      refine ⟨a,fun _=>⟨?_,wa⟩⟩
      have e:=congrArg (fun l:List Value=>l[0]?) ea
      simpa [List.getElem?_take,List.getElem?_drop] using e
    · exact ⟨0,fun h=>absurd h hj⟩
  obtain ⟨g,hg⟩:=Classical.axiomOfChoice hx
  exact ⟨hlen.trans hC,g,hg⟩
end
def C3.wf (c:C3):Prop:=(Lit.int .i64 c.s).wf=true∧(Lit.int .i64 c.e).wf=true∧(Lit.int .i64 c.t).wf=true
section
variable {H:Type} {enc:TypeId × Value→H} {w:World} {spare:Nat→Bool} {held:Bool}
theorem dCell (fuel:Nat) (cs:List Value) (x:DataW H × List MemPlace) (h:DataW.trod enc Try.prog w 0 spare held fuel 101 cs=some x) :
    ∃ c:C3,c.wf∧∀ j,j<3→cs[j]?=some (c.val j):=by
  obtain ⟨_,g,hg⟩:=dInts Try.underlying101 (by kernel_rfl) (by kernel_rfl) h
  refine ⟨⟨g 0,g 1,g 2⟩,⟨(hg 0 (by decide)).2,(hg 1 (by decide)).2,(hg 2 (by decide)).2⟩,fun j hj=>?_⟩
  have:j=0∨j=1∨j=2:=by omega
  rcases this with rfl|rfl|rfl
  · exact (hg 0 (by decide)).1
  · exact (hg 1 (by decide)).1
  · exact (hg 2 (by decide)).1
end
end Go.Proofs.Ytmnpgkcdfielbaa
set_option maxRecDepth 100000
set_option linter.unusedSimpArgs false
set_option linter.unusedVariables false
namespace Go.Proofs.Ytmnpgkcdfielbaa
open Go.ChangeShapes Go.WideShapes Go.ChangeAt Go.RowKit Go.Deep
section
variable {H:Type} {enc:TypeId × Value→H} {w:World} {spare:Nat→Bool} {held:Bool}
theorem dInt (fuel:Nat) (cs:List Value) (x:DataW H × List MemPlace) (hx:DataW.trod enc Try.prog w 0 spare held fuel 2 cs=some x) :
    ∃ c:Int,(Lit.int .i64 c).wf=true∧∀ j,j<1→cs[j]?=some (Value.int .i64 c):=by
  obtain ⟨c,rfl,_,hw⟩:=DataW.trod_int Try.underlying2 hx
  refine ⟨c,hw,fun j hj=>?_⟩
  have:j=0:=by omega
  subst this;rfl
end
end Go.Proofs.Ytmnpgkcdfielbaa
