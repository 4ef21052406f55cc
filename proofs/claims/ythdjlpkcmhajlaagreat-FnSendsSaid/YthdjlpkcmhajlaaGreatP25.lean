/-
  What is appended as a number of zeros, and where the new slice lies; the lists are short enough for a machine.
-/
import Derived.Test.YthdjlpkcmhajlaaGreatP02
import Derived.Deep.AppendLies
import Derived.Lib.AppendZeros
set_option linter.unusedSimpArgs false
set_option linter.unusedVariables false
namespace Go.Proofs.YthdjlpkcmhajlaaGreat
open Go.RowKit
theorem run_zeros {P:Program} (w:World) (t tn ty:TypeId) (base:Nat) (e:TypeId) (i:TypeInfo) (z:Value) (kn:IntKind) (size bytes:Nat) (ht:P.underlying t=some (.slice e)) (htn:P.underlying tn=some (.int kn)) (hi:P.info? e=some i) (hz:i.zero=some z)
    (hsize:i.size=size) (hby:i.bytes=bytes) (hzs:z.cells.size=size) (hsz:0<size) (v:Value) (n:Nat) (xs:List Value) (hown:w.ownsRow base e size v n xs)
    (m:Nat) (hm:0<m) (h1:∀ u ∈ (Builtin.zeroCells z.cells m).toList,u.oneCell'=true) (h63:n+m≤maxLen) (hbytes:(n+m)*bytes≤140737488355328) (hbase:base≤w.heap.size) (H:Nat) (hH:w.heap.size=H) :
    ∃ g cap w',(Builtin.append_ #[t,tn] ty #[v,.int kn m]).run P w=.ok (.slice (some ⟨g,0,none⟩) (n+m) cap) w'∧w'.ownsRow base e size (.slice (some ⟨g,0,none⟩) (n+m) cap) (n+m) (xs ++ (Builtin.zeroCells z.cells m).toList)∧w.grownBy w' v.ownBlock∧(v.ownBlock=some g∨g=H)∧g<w'.heap.size:=by
  subst hsize
  subst hby
  subst hH
  have hml:n+m≤9223372036854775807:=by simp only [maxLen] at h63;omega
  have hw:IntKind.i64.wrap (m:Int)=m:=by rw [IntKind.wrap_i64];omega
  have hneg:¬ ((m:Int)<0):=by omega
  have hmb:m*i.bytes≤140737488355328:=Nat.le_trans (Nat.mul_le_mul_right _ (by omega)) hbytes
  have h48i:¬ (281474976710656<(m:Int)*(i.bytes:Int)):=by
    rw [← Int.natCast_mul]
    omega
  have hns:¬ (m*i.size=0):=Nat.mul_ne_zero (by omega) (by omega)
  have hm0:m≠0:=by omega
  have hs0:i.size≠0:=by omega
  have hl:(Builtin.zeroCells z.cells m).toList.length=m*i.size:=by simp [size_zeroCells,hzs]
  have hlen:(xs ++ (Builtin.zeroCells z.cells m).toList).length=(n+m)*i.size:=by rw [List.length_append,hown.1,hl,Nat.add_mul]
  have h63n:¬ (9223372036854775807<((n:Int)+(m:Int))):=by omega
  have grown:∀ (old:Nat),old<n+m→∀ (row:Option Nat),
      (w.drew.alloc (.cells (xs.toArray ++ Builtin.zeroCells z.cells m ++ Builtin.zeroCells z.cells (grownCap w (n+m) old e - (n+m))) e)).ownsRow base e i.size
        (.slice (some ⟨w.heap.size,0,none⟩) (n+m) (grownCap w (n+m) old e)) (n+m) (xs ++ (Builtin.zeroCells z.cells m).toList) ∧
      w.grownBy (w.drew.alloc (.cells (xs.toArray ++ Builtin.zeroCells z.cells m ++ Builtin.zeroCells z.cells (grownCap w (n+m) old e - (n+m))) e)) row:=by
    intro old ho row
    have hge:=grownCap_ge w (n+m) old e
    have hcm:grownCap w (n+m) old e≤maxLen:=grownCap_le_maxLen w (n+m) old e h63
    refine ⟨⟨hlen,.inr ⟨w.heap.size,_,_,rfl,hbase,heap_alloc_new w.drew _,hge,hcm,?_,?_⟩⟩,⟨rfl,rfl,rfl,by simp,fun k hk _=>by rw [heap_alloc_old w.drew _ (show k<w.drew.heap.size from hk)];rfl⟩⟩
    · simp only [Array.size_append,List.size_toArray,size_zeroCells,hzs,hown.1,← Nat.add_mul]
      congr 1
      omega
    · simp only [Array.toList_append,List.append_assoc]
      rw [← List.append_assoc,← hlen]
      exact List.take_left
  have lt:∀ (old:Nat),w.heap.size<(w.drew.alloc (.cells (xs.toArray ++ Builtin.zeroCells z.cells m ++ Builtin.zeroCells z.cells (grownCap w (n+m) old e - (n+m))) e)).heap.size:=fun _=>by simp
  rcases hown.2 with ⟨rfl,rfl⟩|⟨g,cap,cur,rfl,hbg,hg,hnc,hcm,hcs,htake⟩
  · have hx:xs=[]:=List.eq_nil_of_length_eq_zero (by simpa using hown.1)
    subst hx
    have h48':¬ (281474976710656<Builtin.nextslicecap (0+m) 0*i.bytes):=by have:=growslice_fits (need:=0+m) (old:=0) (bytes:=i.bytes) (by omega) hbytes;omega
    have hgr:=grown 0 (by omega) (Value.ownBlock (.slice none 0 0))
    refine ⟨w.heap.size,_,_,?_,hgr.1,hgr.2,.inr rfl,lt 0⟩
    have h63':¬ (9223372036854775807<(m:Int)):=by omega
    simp only [Nat.zero_add] at h48' ⊢
    simp [Builtin.append_,run_underlying ht,run_underlying htn,sizeOf,typeInfo,zeroValue,hi,hz,asInt,asIntOf,hw,hneg,hm0,hs0,hns,h63',h48',h48i,Question.forced,run_firstCells_none,newRow,grownCap]
  · by_cases hroom:n+m≤cap
    · have hfit:n*i.size+(Builtin.zeroCells z.cells m).toList.length≤cur.size:=by rw [hl,hcs,← Nat.add_mul];exact Nat.mul_le_mul_right _ hroom
      have hst:=run_storeCells_at P g (n*i.size) e (Builtin.zeroCells z.cells m).toList 0 cur w hg (by simpa using hfit) h1
      simp only [Nat.add_zero] at hst
      refine ⟨g,cap,_,?_,⟨hlen,.inr ⟨g,cap,_,rfl,hbg,setRow_heap w g cur (cur.toList.take (n*i.size) ++ (Builtin.zeroCells z.cells m).toList ++ cur.toList.drop (n*i.size+(Builtin.zeroCells z.cells m).toList.length)).toArray e _ hg,hroom,hcm,?_,?_⟩⟩,⟨rfl,rfl,rfl,by simp,fun k _ hk=>setRow_other w g k _ (fun e=>hk (by simp [Value.ownBlock,e]))⟩,.inl rfl,?_⟩
      · simp [Builtin.append_,run_underlying ht,run_underlying htn,sizeOf,typeInfo,zeroValue,hi,hz,asInt,asIntOf,hw,hneg,hm0,hs0,hns,h48i,hroom,Addr.add_lit,hst]
      · simp only [List.size_toArray,List.length_append,List.length_take,List.length_drop,Array.length_toList]
        simp only [Array.length_toList] at hfit
        omega
      · rw [htake,← hlen]
        exact List.take_left
      · have:=(Array.getElem?_eq_some_iff.1 hg).1
        simpa using this
    · have holds:∀ j u,xs[j]?=some u→w.cell? ((⟨g,0,none⟩:Addr).add j)=some u:=hown.cells (g:=g) rfl
      have hfo:=run_firstCells_some (P:=P) w.drew i.size n ⟨g,0,none⟩ n cap xs hown.1 (by simpa using holds)
      have h48':¬ (281474976710656<Builtin.nextslicecap (n+m) cap*i.bytes):=by have:=growslice_fits (need:=n+m) (old:=cap) (bytes:=i.bytes) (by omega) hbytes;omega
      have hgr:=grown cap (by omega) (Value.ownBlock (.slice (some ⟨g,0,none⟩) n cap))
      refine ⟨w.heap.size,_,_,?_,hgr.1,hgr.2,.inr rfl,lt cap⟩
      simp [Builtin.append_,run_underlying ht,run_underlying htn,sizeOf,typeInfo,zeroValue,hi,hz,asInt,asIntOf,hw,hneg,hm0,hs0,hns,h63n,h48',h48i,hroom,Question.forced,hfo,newRow,grownCap]
/-- At a step of a region that draws. -/
theorem step_zeros {P:Program} (w:World) {ops:Array Oper} {o:Oper} {a:Act} {K:Act→World→Prop} {Q:Exit→Act→World→Prop} {E:Prop} (hgd:o.guard=none) (s x:Operand) (t tn:TypeId)
    (ho:o.op=.call { callee:=.builtin .append,args:=#[s,x],argTypes:=#[t,tn] })
    (base:Nat) (e:TypeId) (i:TypeInfo) (z:Value) (kn:IntKind) (size bytes:Nat) (ht:P.underlying t=some (.slice e)) (htn:P.underlying tn=some (.int kn)) (hi:P.info? e=some i) (hz:i.zero=some z)
    (hsize:i.size=size) (hby:i.bytes=bytes) (hzs:z.cells.size=size) (hsz:0<size) (v:Value) (n:Nat) (xs:List Value) (hs:a.eval s=v) (hown:w.ownsRow base e size v n xs)
    (m:Nat) (hx:a.eval x=.int kn m) (hm:0<m) (h1:∀ u ∈ (Builtin.zeroCells z.cells m).toList,u.oneCell'=true) (h63:n+m≤maxLen) (hbytes:(n+m)*bytes≤140737488355328) (hbase:base≤w.heap.size) (H:Nat) (hH:w.heap.size=H)
    (h:∀ g cap w',w'.ownsRow base e size (.slice (some ⟨g,0,none⟩) (n+m) cap) (n+m) (xs ++ (Builtin.zeroCells z.cells m).toList)→w.grownBy w' v.ownBlock→(v.ownBlock=some g∨g=H)→g<w'.heap.size→K (a.put o.dst (.slice (some ⟨g,0,none⟩) (n+m) cap)) w') :
    if Region.wanted o (yielded ops a.tmps)=true then Oper.wp P o a w K Q else E:=by
  have hw:Region.wanted o (yielded ops a.tmps)=true:=by simp [Region.wanted,hgd]
  rw [if_pos hw]
  obtain ⟨g,cap,w',hr,h2,h3,h4,h5⟩:=run_zeros (P:=P) w t tn o.type base e i z kn size bytes ht htn hi hz hsize hby hzs hsz v n xs hown m hm h1 h63 hbytes hbase H hH
  exact Lib.wp_append_run w s x t tn ho v _ hs hx _ w' hr (h g cap w' h2 h3 h4 h5)
/-- Zeros of numbers. -/
theorem zeros_ints (m:Nat):(Builtin.zeroCells (Value.int .i64 0).cells m).toList=ints (List.replicate m 0):=by
  unfold Builtin.zeroCells
  apply List.ext_getElem
  · simp [ints,Value.cells]
  · intro k h1 h2
    simp [ints,Value.cells,Nat.mod_one]
theorem OInts.zeros {w:World} {lo k:Nat} {v:Value} {l:List Int} (h:w.ownsRow lo 2 1 v (l.length+k) (ints l ++ (Builtin.zeroCells (Value.int .i64 0).cells k).toList)):OInts w lo v (l ++ List.replicate k 0):=by
  have e:ints (l ++ List.replicate k 0)=ints l ++ ints (List.replicate k 0):=by simp [ints]
  unfold OInts
  rw [e,List.length_append,List.length_replicate,← zeros_ints]
  exact h
end Go.Proofs.YthdjlpkcmhajlaaGreat
