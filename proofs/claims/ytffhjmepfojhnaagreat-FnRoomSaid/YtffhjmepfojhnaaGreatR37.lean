/-
  The script of sending into each room and receiving then, run through with the program's turns as plain functions; no condition.
-/
import Derived.Test.YtffhjmepfojhnaaGreatR25
import Derived.Test.YtffhjmepfojhnaaGreatR34
set_option linter.unusedSimpArgs false
set_option linter.unusedVariables false
namespace Go.Proofs.YtffhjmepfojhnaaGreat
def Cx (r:Nat):Nat→Wo
 | 0=>(jg r 3).1
 | i+1=>(gW (asked (Cx r i) 0 1 (10+(i:Int))).1 0 99).1
def Sy (r:Nat):Wo:=(asked (Cx r r) 1 1 (10+(r:Int))).1
def Qd (r:Nat):Wo:=(gW (Sy r) 1 99).1
def Cy (r:Nat):Nat→Wo
 | 0=>Qd r
 | i+1=>(gW (gW (asked (Cy r i) 2 2 0).1 2 99).1 1 99).1
def Sz (r:Nat):Wo:=(asked (Cy r (r+1)) 2 2 0).1
def Qe (r:Nat):Wo:=(gW (Sz r) 2 99).1
def KY (r i:Nat):Bool :=
 let a:=asked (Cx r i) 0 1 (10+(i:Int))
 a.2 == 0 && (bJ a.1 && (bJ (Cx r (i+1)) && ((Cx r (i+1)).deals.length == i+1 && ((Cx r (i+1)).deals.getD i De.zero).reply == 1)))
def KZ (r i:Nat):Bool :=
 let a:=asked (Cy r i) 2 2 0
 a.2 == 0 && (bJ a.1 && (bJ (gW a.1 2 99).1 && (bJ (Cy r (i+1)) && ((Cy r (i+1)).hands.length == 3 && (((Cy r (i+1)).hands.getD 2 Ha.zero).pos == 0 && (((Cy r (i+1)).hands.getD 2 Ha.zero).out == 10+(i:Int) && ((Cy r (i+1)).hands.getD 1 Ha.zero).pos == 0))))))
def Cq (P:Nat→Bool):Nat→Bool
 | 0=>true
 | n+1=>Cq P n && P n
def EN (r:Nat):Bool :=
 (jg r 3).2 && (bJ (Cx r 0) && (Cq (KY r) r && (bJ (Sy r) && (bJ (Qd r) && ((eU (Qd r)).contains 1 && ((keptIn (Qd r).ch).length == r && (Cq (KZ r) (r+1) && (bJ (Sz r) && (bJ (Qe r) && ((eU (Qe r)).contains 2 && (rF (Qe r) && nM (Qe r))))))))))))
theorem Qf:EN 0=true:=by kernel_rfl
theorem Qg:EN 1=true:=by kernel_rfl
theorem Qh:EN 2=true:=by kernel_rfl
theorem Qi:EN 3=true:=by kernel_rfl
theorem Qj:EN 4=true:=by kernel_rfl
theorem OI {r:Nat} (h:r≤4):EN r=true:=by
 have:r=0∨r=1∨r=2∨r=3∨r=4:=by omega
 rcases this with rfl|rfl|rfl|rfl|rfl
 ·exact Qf
 ·exact Qg
 ·exact Qh
 ·exact Qi
 ·exact Qj
theorem vo {P:Nat→Bool}:∀ {n:Nat},Cq P n=true→∀ k,k<n→P k=true
 | n+1,h,k,hk=>by
  simp only [Cq,Bool.and_eq_true] at h
  by_cases e:k=n
  ·subst e;exact h.2
  ·exact vo h.1 k tO
structure Qk (r:Nat):Prop where
 is:(jg r 3).2=true
 s0:bJ (Cx r 0)=true
 snd:∀ k,k<r→∃ y1 y2,asked (Cx r k) 0 1 (10+(k:Int))=(y1,0)∧(gW y1 0 99).1=y2∧Cx r (k+1)=y2∧bJ y1=true∧bJ y2=true∧y2.deals.length=k+1∧(y2.deals.getD k De.zero).reply=1
 mid:∃ y1 y2,(asked (Cx r r) 1 1 (10+(r:Int))).1=y1∧(gW y1 1 99).1=y2∧Cy r 0=y2∧bJ y1=true∧bJ y2=true∧(eU y2).contains 1=true∧(keptIn y2.ch).length=r
 rcv:∀ k,k<r+1→∃ y1 y2 y3,asked (Cy r k) 2 2 0=(y1,0)∧(gW y1 2 99).1=y2∧(gW y2 1 99).1=y3∧Cy r (k+1)=y3∧bJ y1=true∧bJ y2=true∧bJ y3=true∧y3.hands.length=3∧(y3.hands.getD 2 Ha.zero).pos=0∧(y3.hands.getD 2 Ha.zero).out=10+(k:Int)∧(y3.hands.getD 1 Ha.zero).pos=0
 fin:∃ y1 y2,(asked (Cy r (r+1)) 2 2 0).1=y1∧(gW y1 2 99).1=y2∧bJ y1=true∧bJ y2=true∧(eU y2).contains 2=true∧rF y2=true∧nM y2=true
theorem EO {r:Nat} (h:r≤4):Qk r:=by
 have H:=OI h
 simp only [EN,Bool.and_eq_true,beq_iff_eq] at H
 obtain ⟨h1,h2,h3,h4,h5,h6,h7,h8,h9,h10,h11,h12,OY⟩:=H
 refine ⟨h1,h2,fun k hk=>?_,⟨Sy r,Qd r,rfl,rfl,rfl,h4,h5,h6,h7⟩,fun k hk=>?_,⟨Sz r,Qe r,rfl,rfl,h9,h10,h11,h12,OY⟩⟩
 ·have hs:=vo h3 k hk
  simp only [KY,Bool.and_eq_true,beq_iff_eq] at hs
  obtain ⟨a,b,c,d,e⟩:=hs
  exact ⟨_,_,Prod.ext rfl a,rfl,rfl,b,c,d,e⟩
 ·have hs:=vo h8 k hk
  simp only [KZ,Bool.and_eq_true,beq_iff_eq] at hs
  obtain ⟨a,b,c,d,e,f,g,i⟩:=hs
  exact ⟨_,_,_,Prod.ext rfl a,rfl,rfl,rfl,b,c,d,e,f,g,i⟩
end Go.Proofs.YtffhjmepfojhnaaGreat
