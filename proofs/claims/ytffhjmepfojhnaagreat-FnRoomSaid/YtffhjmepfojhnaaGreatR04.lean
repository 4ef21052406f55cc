/-
  The reference model's copy of a world: the same in new memory; lists lie in memory and hold at most 2 ^ 40 elements.
-/
import Derived.Test.YtffhjmepfojhnaaGreatR02
import Derived.Test.YtffhjmepfojhnaaGreatR03
import Derived.Deep.AppendLies
import Derived.Test.YtffhjmepfojhnaaGreatR01
import Derived.Laws.CopyOwn
set_option linter.unusedSimpArgs false
set_option linter.unusedVariables false
namespace Go.Proofs.YtffhjmepfojhnaaGreat
section
open Go.RowKit
theorem gU {w:World} {lo lo':Nat} {e e':TypeId} {k k' n n':Nat} {v v':Value} {xs xs':List Value} (h:w.ownsRow lo e k v n xs) (h':w.ownsRow lo' e' k' v' n' xs') (hne:e≠e'):v.ownBlock=none∨v.ownBlock≠v'.ownBlock:=by
 rcases h.2 with ⟨rfl,_⟩|⟨g,cap,cur,rfl,_,hg,_⟩
 ·exact .inl rfl
 ·refine .inr fun e2=>?_
  rcases h'.2 with ⟨rfl,_⟩|⟨g',cap',cur',rfl,_,hg',_⟩
  ·cases e2
  ·simp [Value.ownBlock] at e2
   subst e2
   rw [hg] at hg'
   simp at hg'
   exact hne hg'.2
theorem Fp (w:World) (r:Option Nat):w.grownBy w r:=⟨rfl,rfl,rfl,Nat.le_refl _,fun _ _ _=>rfl⟩
theorem Gg:(Tryz.prog.info? 49).map (fun i=>(i.zero,i.size,i.bytes))=some (some (.agg (aa Ha.zero)),14,112):=by kernel_rfl
theorem xu:(Tryz.prog.info? 44).map (fun i=>(i.zero,i.size,i.bytes))=some (some (.agg (iY De.zero)),7,56):=by kernel_rfl
theorem Seg.news {w:World} {B n k:Nat} {b:Option Addr} {f:Nat→Nat→Value} {xs:List Value} (h:Seg w B b n k f) (hl:xs.length=n*k) (hg:∀ i j,i<n→j<k→xs[i*k+j]?=some (f i j)):∀ ad,b=some ad→∀ j u,xs[j]?=some u→w.cell? (ad.add j)=some u:=by
 intro ad e j u hu
 have hj:j<n*k:=by rw [← hl];exact (List.getElem?_eq_some_iff.1 hu).1
 have hk:0<k:=Nat.pos_of_ne_zero fun e=>by subst e;simp at hj
 rcases h with h0|⟨b',o',e2,_,hc⟩
 ·subst h0;simp at hj
 ·subst e
  simp at e2
  subst e2
  have e3:j=j / k*k+j % k:=by have:=Nat.div_add_mod j k;rw [Nat.mul_comm] at this;omega
  have hi:j / k<n:=Nat.div_lt_of_lt_mul (by rw [Nat.mul_comm];exact hj)
  have hm:j % k<k:=Nat.mod_lt _ hk
  have g1:=hg (j / k) (j % k) hi hm
  rw [← e3] at g1
  rw [g1] at hu
  simp at hu
  rw [← hu,← hc (j / k) (j % k) hi hm]
  congr 1
  by_cases e:j=0
  ·subst e;simp [Addr.add]
  ·simp [Addr.add,e];omega
end
section
open Go.RowKit
section
variable {P:Program}
theorem qy (w:World) (dT sT ty elem:TypeId) (g o dLen dCap k:Nat) (a:Addr) (sLen sCap:Nat) (cur:Array Value) (t:TypeId) (cs:List Value)
  (hu:P.underlying dT=some (.slice elem)) (hs:(P.info? elem).map (·.size)=some k)
  (hg:w.heap[g]?=some (.cells cur t (0,0))) (hn:cs.length=Nat.min sLen dLen*k)
  (hsrc:∀ j v,cs[j]?=some v→w.cell? (a.add j)=some v) (hfit:o+cs.length≤cur.size) (h1:∀ v ∈ cs,v.oneCell'=true) :
  (Builtin.copy_ #[dT,sT] ty #[.slice (some ⟨g,o,none⟩) dLen dCap,.slice (some a) sLen sCap]).run P w =
   .ok (goInt (Nat.min sLen dLen)) (w.setRow g (cur.toList.take o ++ cs ++ cur.toList.drop (o+cs.length)).toArray):=by
 have hl:=run_loadCells_list (P:=P) w a cs hsrc
 have hst:=run_storeCells_at P g o t cs 0 cur w hg (by simpa using hfit) h1
 cases hq:P.info? elem with
 | none=>simp [hq] at hs
 | some i =>
  have hi:i.size=k:=by simpa [hq] using hs
  simp [Builtin.copy_,run_underlying hu,Builtin.lenOf,Builtin.firstCells,sizeOf,typeInfo,hq,hi,← hn,hl,hst]
theorem vF (w:World) (dT sT ty elem:TypeId) (d:Option Addr) (dLen dCap sLen sCap k:Nat) (hu:P.underlying dT=some (.slice elem)) (hs:(P.info? elem).map (·.size)=some k) (hz:sLen=0) :
  (Builtin.copy_ #[dT,sT] ty #[.slice d dLen dCap,.slice none sLen sCap]).run P w=.ok (goInt 0) w:=by
 subst hz
 cases hq:P.info? elem with
 | none=>simp [hq] at hs
 | some i=>cases d <;> simp [Builtin.copy_,run_underlying hu,Builtin.lenOf,Builtin.firstCells,sizeOf,typeInfo,hq,storeCells]
theorem Gh (w:World) (g:Nat) (cs:Array Value):w.grownBy (w.setRow g cs) (some g):=⟨rfl,rfl,rfl,by simp [World.setRow],fun k _ hn=>setRow_other w g k cs (fun e=>hn (by rw [e]))⟩
theorem oO (w:World) (dT sT ty elem:TypeId) (g n k:Nat) (sp:Option Addr) (sCap:Nat) (cur:Array Value) (t:TypeId) (xs:List Value)
  (hu:P.underlying dT=some (.slice elem)) (hs:(P.info? elem).map (·.size)=some k) (hg:w.heap[g]?=some (.cells cur t (0,0))) (hc:cur.size=n*k) (hl:xs.length=n*k)
  (hz:sp=none→n=0) (hsrc:∀ ad,sp=some ad→∀ j v,xs[j]?=some v→w.cell? (ad.add j)=some v) (h1:∀ v ∈ xs,v.oneCell'=true) :
  ∃ w',(Builtin.copy_ #[dT,sT] ty #[.slice (some ⟨g,0,none⟩) n n,.slice sp n sCap]).run P w=.ok (goInt n) w'∧w'.heap[g]?=some (.cells xs.toArray t (0,0))∧w.grownBy w' (some g):=by
 rcases sp with _|ad
 ·obtain rfl:=hz rfl
  refine ⟨w,vF w dT sT ty elem _ 0 0 0 sCap k hu hs rfl,?_,⟨rfl,rfl,rfl,Nat.le_refl _,fun _ _ _=>rfl⟩⟩
  have e1:xs=[]:=List.eq_nil_of_length_eq_zero (by simpa using hl)
  have e2:cur=#[]:=Array.eq_empty_of_size_eq_zero (by simpa using hc)
  rw [hg,e1,e2]
 ·have hm:Nat.min n n=n:=Nat.min_self n
  have:=qy (P:=P) w dT sT ty elem g 0 n n k ad n sCap cur t xs hu hs hg (by rw [hm];exact hl) (hsrc ad rfl) tO h1
  rw [hm] at this
  refine ⟨_,this,?_,Gh w g _⟩
  have:=setRow_heap w g cur ((cur.toList.take 0 ++ xs ++ cur.toList.drop (0+xs.length)).toArray) t (0,0) hg
  rw [this]
  have e:cur.toList.drop (0+xs.length)=[]:=by apply List.drop_eq_nil_of_le;simp;omega
  rw [e]
  simp
end
theorem qz {w:World} {lo g n k:Nat} {t:TypeId} {xs:List Value} (h:w.heap[g]?=some (.cells xs.toArray t (0,0))) (hl:xs.length=n*k) (hlo:lo≤g) (hm:n≤maxLen):w.ownsRow lo t k (.slice (some ⟨g,0,none⟩) n n) n xs :=
 ⟨hl,.inr ⟨g,n,xs.toArray,rfl,hlo,h,Nat.le_refl _,hm,by simp [hl],by simp [← hl]⟩⟩
end
section
theorem kA {x0 a b:Prop} (f:a→b) (h:x0∧a):x0∧b:=⟨h.1,f h.2⟩
theorem kB {x0 x1 a b:Prop} (f:a→b) (h:x0∧x1∧a):x0∧x1∧b:=⟨h.1,h.2.1,f h.2.2⟩
theorem kC {x0 x1 x2 x3 a b:Prop} (f:a→b) (h:x0∧x1∧x2∧x3∧a):x0∧x1∧x2∧x3∧b:=⟨h.1,h.2.1,h.2.2.1,h.2.2.2.1,f h.2.2.2.2⟩
theorem kD {x0 x1 x2 x3 x4 x5 x6 x7 a b:Prop} (f:a→b) (h:x0∧x1∧x2∧x3∧x4∧x5∧x6∧x7∧a):x0∧x1∧x2∧x3∧x4∧x5∧x6∧x7∧b:=⟨h.1,h.2.1,h.2.2.1,h.2.2.2.1,h.2.2.2.2.1,h.2.2.2.2.2.1,h.2.2.2.2.2.2.1,h.2.2.2.2.2.2.2.1,f h.2.2.2.2.2.2.2.2⟩
theorem kE {x0 x1 x2 x3 x4 x5 x6 x7 x8 x9 Q8 Q9 QA QB QC QD a b:Prop} (f:a→b) (h:x0∧x1∧x2∧x3∧x4∧x5∧x6∧x7∧x8∧x9∧Q8∧Q9∧QA∧QB∧QC∧QD∧a):x0∧x1∧x2∧x3∧x4∧x5∧x6∧x7∧x8∧x9∧Q8∧Q9∧QA∧QB∧QC∧QD∧b:=⟨h.1,h.2.1,h.2.2.1,h.2.2.2.1,h.2.2.2.2.1,h.2.2.2.2.2.1,h.2.2.2.2.2.2.1,h.2.2.2.2.2.2.2.1,h.2.2.2.2.2.2.2.2.1,h.2.2.2.2.2.2.2.2.2.1,h.2.2.2.2.2.2.2.2.2.2.1,h.2.2.2.2.2.2.2.2.2.2.2.1,h.2.2.2.2.2.2.2.2.2.2.2.2.1,h.2.2.2.2.2.2.2.2.2.2.2.2.2.1,h.2.2.2.2.2.2.2.2.2.2.2.2.2.2.1,h.2.2.2.2.2.2.2.2.2.2.2.2.2.2.2.1,f h.2.2.2.2.2.2.2.2.2.2.2.2.2.2.2.2⟩
theorem jC {x0 x1 x2 x3 a:Prop} (h:x0∧x1∧x2∧x3∧a):a:=h.2.2.2.2
theorem jD {x0 x1 x2 x3 x4 x5 x6 x7 a:Prop} (h:x0∧x1∧x2∧x3∧x4∧x5∧x6∧x7∧a):a:=h.2.2.2.2.2.2.2.2
theorem jE {x0 x1 x2 x3 x4 x5 x6 x7 x8 x9 Q8 Q9 QA QB QC QD a:Prop} (h:x0∧x1∧x2∧x3∧x4∧x5∧x6∧x7∧x8∧x9∧Q8∧Q9∧QA∧QB∧QC∧QD∧a):a:=h.2.2.2.2.2.2.2.2.2.2.2.2.2.2.2.2
theorem kX {a b c d:Prop} (x:c) (f:a→b) (h:d∧a):c∧b:=⟨x,f h.2⟩
theorem nB {P:Prop} (h:false=true):P:=by cases h
def qB (l:List Nat):List Nat:=0 :: 1 :: 2 :: 3 :: 4 :: 5 :: 6 :: 7 :: l
def qC (l:List Nat):List Nat:=0 :: 1 :: 2 :: 3 :: 4 :: 5 :: 6 :: 7 :: 8 :: 9 :: 10 :: 11 :: 12 :: 13 :: 14 :: 15 :: l
def qD (l:List Nat):List Nat:=0 :: 1 :: 2 :: 3 :: 4 :: 5 :: 6 :: 7 :: 8 :: 9 :: 10 :: 11 :: 12 :: 13 :: 14 :: 15 :: 16 :: 17 :: 18 :: 19 :: 20 :: 21 :: 22 :: 23 :: l
def qE (l:List Nat):List Nat:=0 :: 1 :: 2 :: 3 :: 4 :: 5 :: 6 :: 7 :: 8 :: 9 :: 10 :: 11 :: 12 :: 13 :: 14 :: 15 :: 16 :: 17 :: 18 :: 19 :: 20 :: 21 :: 22 :: 23 :: 24 :: 25 :: 26 :: 27 :: 28 :: 29 :: 30 :: 31 :: l
end
end Go.Proofs.YtffhjmepfojhnaaGreat
