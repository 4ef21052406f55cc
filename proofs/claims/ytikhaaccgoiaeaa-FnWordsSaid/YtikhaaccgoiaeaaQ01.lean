/-
  What is appended as a number of zeros, and where the new slice lies; the lists are short enough for a machine.
  The draws of chapter 3 from the code; only the code's own memory is made; the code is of at most 4096 bytes.
  The program's functions of chapter 3 that tell a word, and its copies of lists; lists lie in memory and hold at most 2 ^ 40 elements.
  The program's copy of a channel: the same in new memory; lists lie in memory and hold at most 2 ^ 40 elements.
  The program's telling of a word: the closure that tells, and who makes it; lists hold at most 2 ^ 40 elements.
  Facts on words of waiters: what is told is a word, once; what a waiter lays can be told, once; no condition.
-/
import Derived.Test.YtikhaaccgoiaeaaP01
import Derived.Deep.AppendLies
import Derived.Lib.AppendZeros
import Derived.Test.YtikhaaccgoiaeaaP23
import Derived.Test.YtikhaaccgoiaeaaP04
import Derived.Laws.Cover3
set_option linter.unusedSimpArgs false
set_option linter.unusedVariables false
namespace Go.Proofs.Ytikhaaccgoiaeaa
open Go.RowKit
theorem run_zeros {P:Program} (w:World) (t tn ty:TypeId) (base:Nat) (e:TypeId) (i:TypeInfo) (z:Value) (kn:IntKind) (size bytes:Nat) (ht:P.underlying t=some (.slice e)) (htn:P.underlying tn=some (.int kn)) (hi:P.info? e=some i) (hz:i.zero=some z)
    (hsize:i.size=size) (hby:i.bytes=bytes) (hzs:z.cells.size=size) (hsz:0<size) (v:Value) (n:Nat) (xs:List Value) (hown:w.ownsRow base e size v n xs)
    (m:Nat) (hm:0<m) (h1:∀ u ∈ (Builtin.zeroCells z.cells m).toList,u.oneCell'=true) (h63:n+m≤maxLen) (hbytes:(n+m)*bytes≤140737488355328) (hbase:base≤w.heap.size) (H:Nat) (hH:w.heap.size=H) :
    ∃ g cap w',(Builtin.append_ #[t,tn] ty #[v,.int kn m]).run P w=.ok (.slice (some ⟨g,0,none⟩) (n+m) cap) w'∧w'.ownsRow base e size (.slice (some ⟨g,0,none⟩) (n+m) cap) (n+m) (xs ++ (Builtin.zeroCells z.cells m).toList)∧w.grownBy w' v.ownBlock∧(v.ownBlock=some g∨g=H)∧g<w'.heap.size:=by
  subst hsize
  subst hby
  subst hH
  have hml:n+m≤9223372036854775807:=by simp only [maxLen] at h63;omega
  have hw:IntKind.i64.wrap (m:Int)=m:=by rw [IntKind.wrap_i64];omega
  have hneg:¬ ((m:Int)<0):=by omega
  have hmb:m*i.bytes≤140737488355328:=Nat.le_trans (Nat.mul_le_mul_right _ (by omega)) hbytes
  have h48i:¬ (281474976710656<(m:Int)*(i.bytes:Int)):=by
    rw [← Int.natCast_mul]
    omega
  have hns:¬ (m*i.size=0):=Nat.mul_ne_zero (by omega) (by omega)
  have hm0:m≠0:=by omega
  have hs0:i.size≠0:=by omega
  have hl:(Builtin.zeroCells z.cells m).toList.length=m*i.size:=by simp [size_zeroCells,hzs]
  have hlen:(xs ++ (Builtin.zeroCells z.cells m).toList).length=(n+m)*i.size:=by rw [List.length_append,hown.1,hl,Nat.add_mul]
  have h63n:¬ (9223372036854775807<((n:Int)+(m:Int))):=by omega
  have grown:∀ (old:Nat),old<n+m→∀ (row:Option Nat),
      (w.drew.alloc (.cells (xs.toArray ++ Builtin.zeroCells z.cells m ++ Builtin.zeroCells z.cells (grownCap w (n+m) old e - (n+m))) e)).ownsRow base e i.size
        (.slice (some ⟨w.heap.size,0,none⟩) (n+m) (grownCap w (n+m) old e)) (n+m) (xs ++ (Builtin.zeroCells z.cells m).toList) ∧
      w.grownBy (w.drew.alloc (.cells (xs.toArray ++ Builtin.zeroCells z.cells m ++ Builtin.zeroCells z.cells (grownCap w (n+m) old e - (n+m))) e)) row:=by
    intro old ho row
    have hge:=grownCap_ge w (n+m) old e
    have hcm:grownCap w (n+m) old e≤maxLen:=grownCap_le_maxLen w (n+m) old e h63
    refine ⟨⟨hlen,.inr ⟨w.heap.size,_,_,rfl,hbase,heap_alloc_new w.drew _,hge,hcm,?_,?_⟩⟩,⟨rfl,rfl,rfl,by simp,fun k hk _=>by rw [heap_alloc_old w.drew _ (show k<w.drew.heap.size from hk)];rfl⟩⟩
    · simp only [Array.size_append,List.size_toArray,size_zeroCells,hzs,hown.1,← Nat.add_mul]
      congr 1
      omega
    · simp only [Array.toList_append,List.append_assoc]
      rw [← List.append_assoc,← hlen]
      exact List.take_left
  have lt:∀ (old:Nat),w.heap.size<(w.drew.alloc (.cells (xs.toArray ++ Builtin.zeroCells z.cells m ++ Builtin.zeroCells z.cells (grownCap w (n+m) old e - (n+m))) e)).heap.size:=fun _=>by simp
  rcases hown.2 with ⟨rfl,rfl⟩|⟨g,cap,cur,rfl,hbg,hg,hnc,hcm,hcs,htake⟩
  · have hx:xs=[]:=List.eq_nil_of_length_eq_zero (by simpa using hown.1)
    subst hx
    have h48':¬ (281474976710656<Builtin.nextslicecap (0+m) 0*i.bytes):=by have:=growslice_fits (need:=0+m) (old:=0) (bytes:=i.bytes) (by omega) hbytes;omega
    have hgr:=grown 0 (by omega) (Value.ownBlock (.slice none 0 0))
    refine ⟨w.heap.size,_,_,?_,hgr.1,hgr.2,.inr rfl,lt 0⟩
    have h63':¬ (9223372036854775807<(m:Int)):=by omega
    simp only [Nat.zero_add] at h48' ⊢
    simp [Builtin.append_,run_underlying ht,run_underlying htn,sizeOf,typeInfo,zeroValue,hi,hz,asInt,asIntOf,hw,hneg,hm0,hs0,hns,h63',h48',h48i,Question.forced,run_firstCells_none,newRow,grownCap]
  · by_cases hroom:n+m≤cap
    · have hfit:n*i.size+(Builtin.zeroCells z.cells m).toList.length≤cur.size:=by rw [hl,hcs,← Nat.add_mul];exact Nat.mul_le_mul_right _ hroom
      have hst:=run_storeCells_at P g (n*i.size) e (Builtin.zeroCells z.cells m).toList 0 cur w hg (by simpa using hfit) h1
      simp only [Nat.add_zero] at hst
      refine ⟨g,cap,_,?_,⟨hlen,.inr ⟨g,cap,_,rfl,hbg,setRow_heap w g cur (cur.toList.take (n*i.size) ++ (Builtin.zeroCells z.cells m).toList ++ cur.toList.drop (n*i.size+(Builtin.zeroCells z.cells m).toList.length)).toArray e _ hg,hroom,hcm,?_,?_⟩⟩,⟨rfl,rfl,rfl,by simp,fun k _ hk=>setRow_other w g k _ (fun e=>hk (by simp [Value.ownBlock,e]))⟩,.inl rfl,?_⟩
      · simp [Builtin.append_,run_underlying ht,run_underlying htn,sizeOf,typeInfo,zeroValue,hi,hz,asInt,asIntOf,hw,hneg,hm0,hs0,hns,h48i,hroom,Addr.add_lit,hst]
      · simp only [List.size_toArray,List.length_append,List.length_take,List.length_drop,Array.length_toList]
        simp only [Array.length_toList] at hfit
        omega
      · rw [htake,← hlen]
        exact List.take_left
      · have:=(Array.getElem?_eq_some_iff.1 hg).1
        simpa using this
    · have holds:∀ j u,xs[j]?=some u→w.cell? ((⟨g,0,none⟩:Addr).add j)=some u:=hown.cells (g:=g) rfl
      have hfo:=run_firstCells_some (P:=P) w.drew i.size n ⟨g,0,none⟩ n cap xs hown.1 (by simpa using holds)
      have h48':¬ (281474976710656<Builtin.nextslicecap (n+m) cap*i.bytes):=by have:=growslice_fits (need:=n+m) (old:=cap) (bytes:=i.bytes) (by omega) hbytes;omega
      have hgr:=grown cap (by omega) (Value.ownBlock (.slice (some ⟨g,0,none⟩) n cap))
      refine ⟨w.heap.size,_,_,?_,hgr.1,hgr.2,.inr rfl,lt cap⟩
      simp [Builtin.append_,run_underlying ht,run_underlying htn,sizeOf,typeInfo,zeroValue,hi,hz,asInt,asIntOf,hw,hneg,hm0,hs0,hns,h63n,h48',h48i,hroom,Question.forced,hfo,newRow,grownCap]
/-- At a step of a region that draws. -/
theorem step_zeros {P:Program} (w:World) {ops:Array Oper} {o:Oper} {a:Act} {K:Act→World→Prop} {Q:Exit→Act→World→Prop} {E:Prop} (hgd:o.guard=none) (s x:Operand) (t tn:TypeId)
    (ho:o.op=.call { callee:=.builtin .append,args:=#[s,x],argTypes:=#[t,tn] })
    (base:Nat) (e:TypeId) (i:TypeInfo) (z:Value) (kn:IntKind) (size bytes:Nat) (ht:P.underlying t=some (.slice e)) (htn:P.underlying tn=some (.int kn)) (hi:P.info? e=some i) (hz:i.zero=some z)
    (hsize:i.size=size) (hby:i.bytes=bytes) (hzs:z.cells.size=size) (hsz:0<size) (v:Value) (n:Nat) (xs:List Value) (hs:a.eval s=v) (hown:w.ownsRow base e size v n xs)
    (m:Nat) (hx:a.eval x=.int kn m) (hm:0<m) (h1:∀ u ∈ (Builtin.zeroCells z.cells m).toList,u.oneCell'=true) (h63:n+m≤maxLen) (hbytes:(n+m)*bytes≤140737488355328) (hbase:base≤w.heap.size) (H:Nat) (hH:w.heap.size=H)
    (h:∀ g cap w',w'.ownsRow base e size (.slice (some ⟨g,0,none⟩) (n+m) cap) (n+m) (xs ++ (Builtin.zeroCells z.cells m).toList)→w.grownBy w' v.ownBlock→(v.ownBlock=some g∨g=H)→g<w'.heap.size→K (a.put o.dst (.slice (some ⟨g,0,none⟩) (n+m) cap)) w') :
    if Region.wanted o (yielded ops a.tmps)=true then Oper.wp P o a w K Q else E:=by
  have hw:Region.wanted o (yielded ops a.tmps)=true:=by simp [Region.wanted,hgd]
  rw [if_pos hw]
  obtain ⟨g,cap,w',hr,h2,h3,h4,h5⟩:=run_zeros (P:=P) w t tn o.type base e i z kn size bytes ht htn hi hz hsize hby hzs hsz v n xs hown m hm h1 h63 hbytes hbase H hH
  exact Lib.wp_append_run w s x t tn ho v _ hs hx _ w' hr (h g cap w' h2 h3 h4 h5)
/-- Zeros of numbers. -/
theorem zeros_ints (m:Nat):(Builtin.zeroCells (Value.int .i64 0).cells m).toList=ints (List.replicate m 0):=by
  unfold Builtin.zeroCells
  apply List.ext_getElem
  · simp [ints,Value.cells]
  · intro k h1 h2
    simp [ints,Value.cells,Nat.mod_one]
theorem OInts.zeros {w:World} {lo k:Nat} {v:Value} {l:List Int} (h:w.ownsRow lo 2 1 v (l.length+k) (ints l ++ (Builtin.zeroCells (Value.int .i64 0).cells k).toList)):OInts w lo v (l ++ List.replicate k 0):=by
  have e:ints (l ++ List.replicate k 0)=ints l ++ ints (List.replicate k 0):=by simp [ints]
  unfold OInts
  rw [e,List.length_append,List.length_replicate,← zeros_ints]
  exact h
end Go.Proofs.Ytikhaaccgoiaeaa
set_option linter.unusedSimpArgs false
set_option linter.unusedVariables false
namespace Go.Proofs.Ytikhaaccgoiaeaa
open Go.RowKit
set_option linter.unusedSimpArgs false
/-- A channel and two numbers are answered. -/
def ChanDII (w':World) (lo:Nat) (r:Ending):Prop:=∃ (c:Ch) (a:Option Addr) (p:Nat) (v2:Value) (n m:Int),r=.returned (.tuple #[.agg #[.int .i64 c.cap,.int .i64 c.sent,.int .i64 c.got,.int .i64 c.fin,.slice a c.cells.length p,v2],.int .i64 n,.int .i64 m])∧Seg w' w'.heap.size a c.cells.length 3 (cellF c.cells)∧(a=none→p=0)∧OInts w' lo v2 c.words∧c.cells.length≤40∧c.words.length≤38
def ChanDIL (w':World) (lo:Nat) (r:Ending):Prop:=∃ (c:Ch) (a:Option Addr) (p:Nat) (v2:Value) (n:Int),r=.returned (.tuple #[.agg #[.int .i64 c.cap,.int .i64 c.sent,.int .i64 c.got,.int .i64 c.fin,.slice a c.cells.length p,v2],.int .i64 n])∧Seg w' w'.heap.size a c.cells.length 3 (cellF c.cells)∧(a=none→p=0)∧(∀ ad,a=some ad→lo≤ad.block)∧OInts w' lo v2 c.words∧c.cells.length≤40∧c.words.length≤38
set_option maxRecDepth 100000 in
set_option maxHeartbeats 1000000 in
theorem drawWordOf_any (n cap:Nat) (a:Option Addr) (bs:Nat→Int) (w:World) (h:Code w w.heap.size a n bs) :
    Calls Try.prog 28 #[.slice a n cap] w fun r w'=>ChanDIL w' w.heap.size r∧Below w.heap.size w w':=by
  go_enter Try.func28,Try.ntmps28
  go_wp2_with fail;refine (new_any w.heap.size _ _ _ bs _ (h.below (by (repeat (with_reducible first|assumption|exact bR|refine bA ?_|refine bD ?_|((first|refine bS ?_ ?_|refine bBx ?_ ?_);rotate_left;focus (try simp) <;> (try omega)))))) (by ((try simp);(try omega)))).mono ?_;rintro _ w1 ⟨g,rfl,hdw1,hgle,hbw1⟩;have hBw1:Below w.heap.size w w1:=bT (by (repeat (with_reducible first|assumption|exact bR|refine bA ?_|refine bD ?_|((first|refine bS ?_ ?_|refine bBx ?_ ?_);rotate_left;focus (try simp) <;> (try omega))))) hbw1;have hlw1:=hdw1.lt;have hsw1:=hbw1.size;(try (simp at hsw1));(try (simp at hgle));have:=fun o=>hbw1.cell (p:=⟨w.heap.size,o,none⟩) (by ((try simp);(try omega)));have:=fun o=>hbw1.frozen (p:=⟨w.heap.size,o,none⟩) (by ((try simp);(try omega)));have:w.heap.size<w1.heap.size:=(by omega);have:w.heap.size≤w1.heap.size:=(by omega);have:w.heap.size≤w1.heap.size+1:=(by omega)
  go_wp2_with fail;refine (l2DrawAny_any w.heap.size g  _ (by (repeat (first|with_reducible assumption|with_reducible refine DS.alloc ?_|with_reducible refine DS.drew ?_|((with_reducible refine DS.setCell ?_ ?_ ?_);rotate_left;(focus ((try simp);(try omega)));(focus ((try simp);(try omega))))))) ).mono ?_;rintro _ w2 ⟨⟨c,a2,p2,v2,rfl,hs,hz,hlo,ho,hl1,hl2⟩,hdw2,hgw2⟩;have hBw2:Below w.heap.size w w2:=bG (by (repeat (with_reducible first|assumption|exact bR|refine bA ?_|refine bD ?_|((first|refine bS ?_ ?_|refine bBx ?_ ?_);rotate_left;focus (try simp) <;> (try omega))))) hgw2 (by omega);have hlw2:=hdw2.lt;have hsw2:=hgw2.size;(try (simp at hsw2));have:=gCell hgw2 (b:=w.heap.size) ((by ((try simp);(try omega)))) (by omega);have:=gFroz hgw2 (b:=w.heap.size) ((by ((try simp);(try omega)))) (by omega);have:w.heap.size<w2.heap.size:=(by omega);have:w.heap.size≤w2.heap.size:=(by omega);have:w.heap.size≤w2.heap.size+1:=(by omega)
  have HO:=Lib.hid ho
  obtain ⟨b2,q2,rfl,_⟩:=ho.seg
  have hwr:IntKind.i64.wrap ((c.words.length:Int)+1)=(c.words.length:Int)+1:=IntWalk.i64_in _ (by omega)
  have hwr2:wrap64 ((c.words.length:Int)+1)=(c.words.length:Int)+1:=IntWalk.wrap64_in _ (by omega)
  go_wp2_with fail
  go_region_held3 (fun w'=>w'.cell? ⟨w2.heap.size,0,none⟩=some (.int .i64 c.cap)∧w'.cell? ⟨w2.heap.size,1,none⟩=some (.int .i64 c.sent)∧w'.cell? ⟨w2.heap.size,2,none⟩=some (.int .i64 c.got)∧w'.cell? ⟨w2.heap.size,3,none⟩=some (.int .i64 c.fin)∧w'.cell? ⟨w2.heap.size,4,none⟩=some (.slice a2 c.cells.length p2)∧w'.cell? ⟨w2.heap.size,5,none⟩=some (.slice b2 c.words.length q2))
    (first|(simp [*,go_sem]))
    (first|(go_at_call 41;refine (l1From_any w.heap.size g (-1) ((c.words.length:Int)+1)  _ (by (repeat (first|with_reducible assumption|with_reducible refine DS.alloc ?_|with_reducible refine DS.drew ?_|((with_reducible refine DS.setCell ?_ ?_ ?_);rotate_left;(focus ((try simp);(try omega)));(focus ((try simp);(try omega)))))))  (by omega) (by omega) (by omega) (by omega)).mono ?_;rintro _ w3 ⟨⟨x3,rfl,_,_⟩,hdw3,hgw3⟩;have hBw3:Below w.heap.size w w3:=bG (by (repeat (with_reducible first|assumption|exact bR|refine bA ?_|refine bD ?_|((first|refine bS ?_ ?_|refine bBx ?_ ?_);rotate_left;focus (try simp) <;> (try omega))))) hgw3 (by omega);have hlw3:=hdw3.lt;have hsw3:=hgw3.size;(try (simp at hsw3));have:=gCell hgw3 (b:=w.heap.size) ((by ((try simp);(try omega)))) (by omega);have:=gFroz hgw3 (b:=w.heap.size) ((by ((try simp);(try omega)))) (by omega);have:w.heap.size<w3.heap.size:=(by omega);have:w.heap.size≤w3.heap.size:=(by omega);have:w.heap.size≤w3.heap.size+1:=(by omega);have:=gCell hgw3 (b:=w2.heap.size) ((by ((try simp);(try omega)))) (by omega);have:=gFroz hgw3 (b:=w2.heap.size) ((by ((try simp);(try omega)))) (by omega);have:w2.heap.size<w3.heap.size:=(by omega);have:w2.heap.size≤w3.heap.size:=(by omega);have:w2.heap.size≤w3.heap.size+1:=(by omega)))
  have hs3:=Seg.gr (Seg.drew (Seg.alloc hs (Nat.le_refl _) _)) hgw3 (by simp) (fun ad e=>by have:=hlo ad e;omega)
  have ho3:=(World.ownsRow.drew (World.ownsRow.alloc HO.out _)).kept hgw3 (.inr (own_ne HO.out (by omega)))
  go_wp2
  refine bodyPost_ret (v:=.tuple #[.agg #[.int .i64 c.cap,.int .i64 c.sent,.int .i64 c.got,.int .i64 c.fin,.slice a2 c.cells.length p2,.slice b2 c.words.length q2],.int .i64 x3]) (by simp [results,Try.results28,go_sem, *]) rfl ⟨⟨c,a2,p2,_,x3,rfl,?_,hz,?_,?_,hl1,hl2⟩,?_⟩
  · (refine Seg.more (B:=w3.heap.size) ?_ (by simp));(repeat (first|with_reducible exact hs3|with_reducible refine Seg.drew ?_|((with_reducible refine Seg.store ?_ ?_ _);rotate_left;(focus (intro ad e;have:=hlo ad e;(try dsimp only);omega)))))
  · exact fun ad e=>by have:=hlo ad e;omega
  · (refine own_lo (lo:=w1.heap.size) ?_ (by omega));(repeat first|with_reducible exact ho3|with_reducible refine oAl ?_ _|with_reducible refine oDr ?_|((with_reducible first|refine own_store ?_ ?_ _|refine own_box ?_ ?_);rotate_left;focus first|(refine own_ne HO.out ?_;(try dsimp only);omega)|(refine own_ne' HO.out ?_;(try dsimp only);omega)))
  · (repeat (with_reducible first|assumption|exact bR|refine bA ?_|refine bD ?_|((first|refine bS ?_ ?_|refine bBx ?_ ?_);rotate_left;focus (try simp) <;> (try omega))))
set_option maxRecDepth 100000 in
set_option maxHeartbeats 1000000 in
theorem drawTold_any (n cap:Nat) (a:Option Addr) (bs:Nat→Int) (w:World) (h:Code w w.heap.size a n bs) :
    Calls Try.prog 22 #[.slice a n cap] w fun r w'=>ChanDII w' w.heap.size r∧Below w.heap.size w w':=by
  have HC:=Lib.hid h
  go_enter Try.func22,Try.ntmps22
  go_wp2_with fail;refine (new_any w.heap.size _ _ _ bs _ (h.below (by (repeat (with_reducible first|assumption|exact bR|refine bA ?_|refine bD ?_|((first|refine bS ?_ ?_|refine bBx ?_ ?_);rotate_left;focus (try simp) <;> (try omega)))))) (by ((try simp);(try omega)))).mono ?_;rintro _ w1 ⟨g,rfl,hdw1,hgle,hbw1⟩;have hBw1:Below w.heap.size w w1:=bT (by (repeat (with_reducible first|assumption|exact bR|refine bA ?_|refine bD ?_|((first|refine bS ?_ ?_|refine bBx ?_ ?_);rotate_left;focus (try simp) <;> (try omega))))) hbw1;have hlw1:=hdw1.lt;have hsw1:=hbw1.size;(try (simp at hsw1));(try (simp at hgle));have:=fun o=>hbw1.cell (p:=⟨w.heap.size,o,none⟩) (by ((try simp);(try omega)));have:=fun o=>hbw1.frozen (p:=⟨w.heap.size,o,none⟩) (by ((try simp);(try omega)));have:w.heap.size<w1.heap.size:=(by omega);have:w.heap.size≤w1.heap.size:=(by omega);have:w.heap.size≤w1.heap.size+1:=(by omega)
  have DX:=Lib.hid hdw1
  clear hdw1
  go_wp2_with fail
  refine bHit w (by (repeat (with_reducible first|assumption|exact bR|refine bA ?_|refine bD ?_|((first|refine bS ?_ ?_|refine bBx ?_ ?_);rotate_left;focus (try simp) <;> (try omega))))) fun bb=>?_
  refine bHit w1 (by (repeat (with_reducible first|assumption|exact bR|refine bA ?_|refine bD ?_|((first|refine bS ?_ ?_|refine bBx ?_ ?_);rotate_left;focus (try simp) <;> (try omega))))) fun bk=>?_
  refine (drawWordOf_any _ _ _ bs _ ((HC.out.below bb).more bb.size)).mono ?_
  rintro _ w2 ⟨⟨c,a2,p2,v2,n2,rfl,hs,hz,hlo,ho,hl1,hl2⟩,hbw2⟩
  have hCw2:Below w.heap.size w w2:=bT bb hbw2
  have hKw2:Below w1.heap.size w1 w2:=bT bk hbw2
  have hd2:DS w2 w.heap.size g:=DX.out.keep (hKw2.block g hlw1) (hKw2.mono (by omega))
  have hs2:=hCw2.size
  have hs2k:=hKw2.size
  have l2g:=hd2.lt
  have HO:=Lib.hid ho
  obtain ⟨b2,q2,rfl,_⟩:=ho.seg
  have x_w:=fun o=>hKw2.cell (p:=⟨w.heap.size,o,none⟩) (by (try simp) <;> omega)
  have f_w:=fun o=>hKw2.frozen (p:=⟨w.heap.size,o,none⟩) (by (try simp) <;> omega)
  have:w.heap.size<w2.heap.size:=by omega
  go_wp2_with fail
  go_region_held3 (fun w'=>w'.cell? ⟨w2.heap.size,0,none⟩=some (.int .i64 c.cap)∧w'.cell? ⟨w2.heap.size,1,none⟩=some (.int .i64 c.sent)∧w'.cell? ⟨w2.heap.size,2,none⟩=some (.int .i64 c.got)∧w'.cell? ⟨w2.heap.size,3,none⟩=some (.int .i64 c.fin)∧w'.cell? ⟨w2.heap.size,4,none⟩=some (.slice a2 c.cells.length p2)∧w'.cell? ⟨w2.heap.size,5,none⟩=some (.slice b2 c.words.length q2))
    (first|(simp [*,go_sem]))
    (first|(go_at_call 41;refine (l1From_any w.heap.size g 0 3  _ (by (repeat (first|with_reducible assumption|with_reducible refine DS.alloc ?_|with_reducible refine DS.drew ?_|((with_reducible refine DS.setCell ?_ ?_ ?_);rotate_left;(focus ((try simp);(try omega)));(focus ((try simp);(try omega)))))))  (by omega) (by omega) (by omega) (by omega)).mono ?_;rintro _ w3 ⟨⟨x3,rfl,_,_⟩,hdw3,hgw3⟩;have hBw3:Below w.heap.size w w3:=bG (by (repeat (with_reducible first|assumption|exact bR|refine bA ?_|refine bD ?_|((first|refine bS ?_ ?_|refine bBx ?_ ?_);rotate_left;focus (try simp) <;> (try omega))))) hgw3 (by omega);have hlw3:=hdw3.lt;have hsw3:=hgw3.size;(try (simp at hsw3));have:=gCell hgw3 (b:=w.heap.size) ((by ((try simp);(try omega)))) (by omega);have:=gFroz hgw3 (b:=w.heap.size) ((by ((try simp);(try omega)))) (by omega);have:w.heap.size<w3.heap.size:=(by omega);have:w.heap.size≤w3.heap.size:=(by omega);have:w.heap.size≤w3.heap.size+1:=(by omega);have:=gCell hgw3 (b:=w2.heap.size) ((by ((try simp);(try omega)))) (by omega);have:=gFroz hgw3 (b:=w2.heap.size) ((by ((try simp);(try omega)))) (by omega);have:w2.heap.size<w3.heap.size:=(by omega);have:w2.heap.size≤w3.heap.size:=(by omega);have:w2.heap.size≤w3.heap.size+1:=(by omega)))
  have hs3:=Seg.gr (Seg.drew (Seg.alloc hs (Nat.le_refl _) _)) hgw3 (by simp) (fun ad e=>by have:=hlo ad e;omega)
  have ho3:=(World.ownsRow.drew (World.ownsRow.alloc HO.out _)).kept hgw3 (.inr (own_ne HO.out (by omega)))
  go_wp2
  refine bodyPost_ret (v:=.tuple #[.agg #[.int .i64 c.cap,.int .i64 c.sent,.int .i64 c.got,.int .i64 c.fin,.slice a2 c.cells.length p2,.slice b2 c.words.length q2],.int .i64 n2,.int .i64 x3]) (by simp [results,Try.results22,go_sem, *]) rfl ⟨⟨c,a2,p2,_,n2,x3,rfl,?_,hz,?_,hl1,hl2⟩,?_⟩
  · (refine Seg.more (B:=w3.heap.size) ?_ (by simp));(repeat (first|with_reducible exact hs3|with_reducible refine Seg.drew ?_|((with_reducible refine Seg.store ?_ ?_ _);rotate_left;(focus (intro ad e;have:=hlo ad e;(try dsimp only);omega)))))
  · (refine own_lo (lo:=w1.heap.size) ?_ (by omega));(repeat first|with_reducible exact ho3|with_reducible refine oAl ?_ _|with_reducible refine oDr ?_|((with_reducible first|refine own_store ?_ ?_ _|refine own_box ?_ ?_);rotate_left;focus first|(refine own_ne HO.out ?_;(try dsimp only);omega)|(refine own_ne' HO.out ?_;(try dsimp only);omega)))
  · (repeat (with_reducible first|assumption|exact bR|refine bA ?_|refine bD ?_|((first|refine bS ?_ ?_|refine bBx ?_ ?_);rotate_left;focus (try simp) <;> (try omega))))
theorem zpos {l k:Nat} {x:Int} (h:80 - (l:Int) - x=k) (h1:l≤38) (h2:x≤1):0<k:=by omega
theorem zle {l k:Nat} {x:Int} (h:80 - (l:Int) - x=k) (h2:0≤x):l+k≤80:=by omega
theorem Seg.grown {w w':World} {row:Option Nat} {B n k:Nat} {a:Option Addr} {f:Nat→Nat→Value} (h:Seg w B a n k f) (hg:w.grownBy w' row) (hB:B≤w.heap.size) (hp:∀ ad,a=some ad→row≠some ad.block):Seg w' w'.heap.size a n k f:=by
  rcases h with h|⟨b,o,rfl,hb,hc⟩
  · exact .inl h
  · refine .inr ⟨b,o,rfl,Nat.lt_of_lt_of_le hb (Nat.le_trans hB hg.size),fun i j hi hj=>?_⟩
    rw [← hc i j hi hj]
    exact World.cell?_of_block (hg.block b (Nat.lt_of_lt_of_le hb hB) (fun e=>hp _ rfl e.symm))
theorem Seg.under {w:World} {B n k:Nat} {a:Option Addr} {f:Nat→Nat→Value} (h:Seg w B a n k f):n=0∨∀ ad,a=some ad→ad.block<B:=by
  rcases h with h|⟨b,o,rfl,hb,_⟩
  · exact .inl h
  · exact .inr fun ad e=>by cases e;exact hb
/-- A channel whose words are no more than 80. -/
def ChanDW (w':World) (lo:Nat) (r:Ending):Prop:=∃ (c:Ch) (a:Option Addr) (p:Nat) (v2:Value),r=.returned (.agg #[.int .i64 c.cap,.int .i64 c.sent,.int .i64 c.got,.int .i64 c.fin,.slice a c.cells.length p,v2])∧Seg w' w'.heap.size a c.cells.length 3 (cellF c.cells)∧(a=none→p=0)∧OInts w' lo v2 c.words∧c.cells.length≤40∧c.words.length≤80
set_option maxRecDepth 100000 in
set_option maxHeartbeats 2000000 in
theorem drawWaiter_any (n cap:Nat) (a:Option Addr) (bs:Nat→Int) (w:World) (h:Code w w.heap.size a n bs) :
    Calls Try.prog 25 #[.slice a n cap] w fun r w'=>ChanDW w' w.heap.size r∧Below w.heap.size w w':=by
  go_enter Try.func25,Try.ntmps25
  go_wp2_with fail;refine (new_any w.heap.size _ _ _ bs _ (h.below (by (repeat (with_reducible first|assumption|exact bR|refine bA ?_|refine bD ?_|((first|refine bS ?_ ?_|refine bBx ?_ ?_);rotate_left;focus (try simp) <;> (try omega)))))) (by ((try simp);(try omega)))).mono ?_;rintro _ w1 ⟨g,rfl,hdw1,hgle,hbw1⟩;have hBw1:Below w.heap.size w w1:=bT (by (repeat (with_reducible first|assumption|exact bR|refine bA ?_|refine bD ?_|((first|refine bS ?_ ?_|refine bBx ?_ ?_);rotate_left;focus (try simp) <;> (try omega))))) hbw1;have hlw1:=hdw1.lt;have hsw1:=hbw1.size;(try (simp at hsw1));(try (simp at hgle));have:=fun o=>hbw1.cell (p:=⟨w.heap.size,o,none⟩) (by ((try simp);(try omega)));have:=fun o=>hbw1.frozen (p:=⟨w.heap.size,o,none⟩) (by ((try simp);(try omega)));have:w.heap.size<w1.heap.size:=(by omega);have:w.heap.size≤w1.heap.size:=(by omega);have:w.heap.size≤w1.heap.size+1:=(by omega)
  go_wp2_with fail;refine (l2DrawAny_all w.heap.size g  _ (by (repeat (first|with_reducible assumption|with_reducible refine DS.alloc ?_|with_reducible refine DS.drew ?_|((with_reducible refine DS.setCell ?_ ?_ ?_);rotate_left;(focus ((try simp);(try omega)));(focus ((try simp);(try omega))))))) ).mono ?_;rintro _ w2 ⟨⟨c,a2,p2,v2,rfl,hs,hz,hlo,ho,hl1,hl2,hoff⟩,hdw2,hgw2⟩;have hBw2:Below w.heap.size w w2:=bG (by (repeat (with_reducible first|assumption|exact bR|refine bA ?_|refine bD ?_|((first|refine bS ?_ ?_|refine bBx ?_ ?_);rotate_left;focus (try simp) <;> (try omega))))) hgw2 (by omega);have hlw2:=hdw2.lt;have hsw2:=hgw2.size;(try (simp at hsw2));have:=gCell hgw2 (b:=w.heap.size) ((by ((try simp);(try omega)))) (by omega);have:=gFroz hgw2 (b:=w.heap.size) ((by ((try simp);(try omega)))) (by omega);have:w.heap.size<w2.heap.size:=(by omega);have:w.heap.size≤w2.heap.size:=(by omega);have:w.heap.size≤w2.heap.size+1:=(by omega)
  have HO:=Lib.hid ho
  obtain ⟨b2,q2,rfl,_⟩:=ho.seg
  go_wp2_with fail;refine (l1Once_any w.heap.size g 10  _ (by (repeat (first|with_reducible assumption|with_reducible refine DS.alloc ?_|with_reducible refine DS.drew ?_|((with_reducible refine DS.setCell ?_ ?_ ?_);rotate_left;(focus ((try simp);(try omega)));(focus ((try simp);(try omega)))))))  (by omega) (by omega)).mono ?_;rintro _ w3 ⟨⟨y3,rfl⟩,hdw3,hgw3⟩;have hBw3:Below w.heap.size w w3:=bG (by (repeat (with_reducible first|assumption|exact bR|refine bA ?_|refine bD ?_|((first|refine bS ?_ ?_|refine bBx ?_ ?_);rotate_left;focus (try simp) <;> (try omega))))) hgw3 (by omega);have hlw3:=hdw3.lt;have hsw3:=hgw3.size;(try (simp at hsw3));have:=gCell hgw3 (b:=w.heap.size) ((by ((try simp);(try omega)))) (by omega);have:=gFroz hgw3 (b:=w.heap.size) ((by ((try simp);(try omega)))) (by omega);have:w.heap.size<w3.heap.size:=(by omega);have:w.heap.size≤w3.heap.size:=(by omega);have:w.heap.size≤w3.heap.size+1:=(by omega);have:=gCell hgw3 (b:=w2.heap.size) ((by ((try simp);(try omega)))) (by omega);have:=gFroz hgw3 (b:=w2.heap.size) ((by ((try simp);(try omega)))) (by omega);have:w2.heap.size<w3.heap.size:=(by omega);have:w2.heap.size≤w3.heap.size:=(by omega);have:w2.heap.size≤w3.heap.size+1:=(by omega)
  have hs3:=Seg.gr (Seg.alloc hs (Nat.le_refl _) _) hgw3 (by simp) (fun ad e=>by have:=hlo ad e;omega)
  have ho3:=(World.ownsRow.alloc HO.out _).kept hgw3 (.inr (own_ne HO.out (by omega)))
  cases y3
  · go_wp2
    refine bodyPost_ret (v:=.agg #[.int .i64 c.cap,.int .i64 c.sent,.int .i64 c.got,.int .i64 c.fin,.slice a2 c.cells.length p2,.slice b2 c.words.length q2]) (by simp [results,Try.results25,go_sem, *]) rfl ⟨⟨c,a2,p2,_,rfl,?_,hz,?_,hl1,by omega⟩,?_⟩
    · (refine Seg.more (B:=w3.heap.size) ?_ (by simp));(repeat (first|with_reducible exact hs3|with_reducible refine Seg.drew ?_|((with_reducible refine Seg.store ?_ ?_ _);rotate_left;(focus (intro ad e;have:=hlo ad e;(try dsimp only);omega)))))
    · (refine own_lo (lo:=w1.heap.size) ?_ (by omega));(repeat first|with_reducible exact ho3|with_reducible refine oAl ?_ _|with_reducible refine oDr ?_|((with_reducible first|refine own_store ?_ ?_ _|refine own_box ?_ ?_);rotate_left;focus first|(refine own_ne HO.out ?_;(try dsimp only);omega)|(refine own_ne' HO.out ?_;(try dsimp only);omega)))
    · (repeat (with_reducible first|assumption|exact bR|refine bA ?_|refine bD ?_|((first|refine bS ?_ ?_|refine bBx ?_ ?_);rotate_left;focus (try simp) <;> (try omega))))
  · obtain ⟨i0,hi0,hz0,hz1,hz2⟩:=info_parts infoInt
    have lt2:=fun k hk=>HO.out.lt k hk
    have md0:some w.heap.size≠(Value.slice b2 c.words.length q2).ownBlock:=fun e=>by have:=lt2 _ e.symm;omega
    have md2:some w2.heap.size≠(Value.slice b2 c.words.length q2).ownBlock:=fun e=>by have:=lt2 _ e.symm;omega
    have hwa:IntKind.i64.wrap (80 - (c.words.length:Int))=80 - (c.words.length:Int):=IntWalk.i64_in _ (by omega)
    have hwb:wrap64 (80 - (c.words.length:Int))=80 - (c.words.length:Int):=IntWalk.wrap64_in _ (by omega)
    go_wp2_with fail
    refine wp_region_held_drew (S:=fun _=>True) (by kernel_rfl) trivial (fun hS0=>?_)
    refine wpAnyH_take (i:=0) (oi:=⟨some 11,_,_,_,_,_⟩) (v:=?_) rfl (by kernel_rfl) (by kernel_rfl) (by kernel_rfl) (fun _ _ _ h=>h) (Or.inl ⟨by rfl,?_⟩) (by assumption) ?_;rotate_left;(focus (intro w' hSw;(try dsimp only at hSw);go_simp;(try with_reducible rfl)));(try rotate_left);(try simp only [Act.put,List.setIfInBounds_toArray,List.set_cons_zero,List.set_cons_succ])
    refine wpAnyH_take (i:=2) (oi:=⟨some 13,_,_,_,_,_⟩) (v:=?_) rfl (by kernel_rfl) (by kernel_rfl) (by kernel_rfl) (fun _ _ _ h=>h) (Or.inl ⟨by rfl,?_⟩) (by assumption) ?_;rotate_left;(focus (intro w' hSw;(try dsimp only at hSw);go_simp;(try with_reducible rfl)));(try rotate_left);(try simp only [Act.put,List.setIfInBounds_toArray,List.set_cons_zero,List.set_cons_succ])
    refine wpAnyH_take (i:=6) (oi:=⟨some 17,_,_,_,_,_⟩) (v:=?_) rfl (by kernel_rfl) (by kernel_rfl) (by kernel_rfl) (fun _ _ _ h=>h) (Or.inl ⟨by rfl,?_⟩) (by assumption) ?_;rotate_left;(focus (intro w' hSw;(try dsimp only at hSw);go_simp;(try with_reducible rfl)));(try rotate_left);(try simp only [Act.put,List.setIfInBounds_toArray,List.set_cons_zero,List.set_cons_succ])
    refine wpAnyH_ready (rs:=[1,3,7]) (by kernel_rfl) (by simp) ?_
    refine AllReadyH.cons (o:=⟨some 12,_,_,_,_,_⟩) rfl (fun K hK=>?_) (AllReadyH.cons (o:=⟨some 14,_,_,_,_,_⟩) rfl (fun K hK=>?_) (AllReadyH.cons (o:=⟨some 18,_,_,_,_,_⟩) rfl (fun K hK=>?_) AllReadyH.nil))
    · go_simp
      refine hK.out _ _ trivial (fun _=>?_)
      clear hK
      (try simp only [Act.put,List.setIfInBounds_toArray,List.set_cons_zero,List.set_cons_succ])
      refine wpAnyH_ready (rs:=[3,7]) (by kernel_rfl) (by simp) ?_
      refine AllReadyH.cons (o:=⟨some 14,_,_,_,_,_⟩) rfl (fun K hK=>?_) (AllReadyH.cons (o:=⟨some 18,_,_,_,_,_⟩) rfl (fun K hK=>?_) AllReadyH.nil)
      · go_simp
        refine hK.out _ _ trivial (fun _=>?_)
        clear hK
        (try simp only [Act.put,List.setIfInBounds_toArray,List.set_cons_zero,List.set_cons_succ])
        refine wpAnyH_take (i:=4) (oi:=⟨some 15,_,_,_,_,_⟩) (v:=?_) rfl (by kernel_rfl) (by kernel_rfl) (by kernel_rfl) (fun _ _ _ h=>h) (Or.inl ⟨by rfl,?_⟩) (by assumption) ?_;rotate_left;(focus (intro w' hSw;(try dsimp only at hSw);go_simp;(try with_reducible rfl)));(try rotate_left);(try simp only [Act.put,List.setIfInBounds_toArray,List.set_cons_zero,List.set_cons_succ])
        refine wpAnyH_take (i:=5) (oi:=⟨some 16,_,_,_,_,_⟩) (v:=?_) rfl (by kernel_rfl) (by kernel_rfl) (by kernel_rfl) (fun _ _ _ h=>h) (Or.inl ⟨by rfl,?_⟩) (by assumption) ?_;rotate_left;(focus (intro w' hSw;(try dsimp only at hSw);go_simp;(try with_reducible rfl)));(try rotate_left);(try simp only [Act.put,List.setIfInBounds_toArray,List.set_cons_zero,List.set_cons_succ])
        refine wpAnyH_ready (rs:=[7]) (by kernel_rfl) (by simp) ?_
        refine AllReadyH.cons (o:=⟨some 18,_,_,_,_,_⟩) rfl (fun K hK=>?_) AllReadyH.nil
        go_simp
        ((go_at_call 59;refine (l1Below_any w.heap.size g 2  _ (by (repeat (first|with_reducible assumption|with_reducible refine DS.alloc ?_|with_reducible refine DS.drew ?_|((with_reducible refine DS.setCell ?_ ?_ ?_);rotate_left;(focus ((try simp);(try omega)));(focus ((try simp);(try omega)))))))  (by omega) (by omega)).mono ?_;rintro _ w4 ⟨⟨x4,rfl,h40,h41⟩,hdw4,hgw4⟩;have hBw4:Below w.heap.size w w4:=bG (by (repeat (with_reducible first|assumption|exact bR|refine bA ?_|refine bD ?_|((first|refine bS ?_ ?_|refine bBx ?_ ?_);rotate_left;focus (try simp) <;> (try omega))))) hgw4 (by omega);have hlw4:=hdw4.lt;have hsw4:=hgw4.size;(try (simp at hsw4));have:=gCell hgw4 (b:=w.heap.size) ((by ((try simp);(try omega)))) (by omega);have:=gFroz hgw4 (b:=w.heap.size) ((by ((try simp);(try omega)))) (by omega);have:w.heap.size<w4.heap.size:=(by omega);have:w.heap.size≤w4.heap.size:=(by omega);have:w.heap.size≤w4.heap.size+1:=(by omega);have:=gCell hgw4 (b:=w2.heap.size) ((by ((try simp);(try omega)))) (by omega);have:=gFroz hgw4 (b:=w2.heap.size) ((by ((try simp);(try omega)))) (by omega);have:w2.heap.size<w4.heap.size:=(by omega);have:w2.heap.size≤w4.heap.size:=(by omega);have:w2.heap.size≤w4.heap.size+1:=(by omega)))
        have hK4:Gr g w3 w4:=gT (by (repeat (first|with_reducible assumption|with_reducible exact gR _ _|with_reducible refine gA ?_|with_reducible refine gD ?_|((with_reducible refine gS ?_ (.inr ?_));rotate_left;(focus ((try simp);(try omega))))))) hgw4
        have hs4:=Seg.gr hs3 hK4 (Nat.le_refl _) (fun ad e=>by have:=hlo ad e;omega)
        have ho4:=ho3.kept hK4 (.inr (own_ne HO.out (by omega)))
        obtain ⟨k,hk⟩:∃ k:Nat,80 - (c.words.length:Int) - x4=(k:Int):=⟨(80 - (c.words.length:Int) - x4).toNat,by omega⟩
        have hk0:0<k:=zpos hk hl2 (by omega)
        have hwc:IntKind.i64.wrap (k:Int)=(k:Int):=IntWalk.i64_in _ (by omega)
        have hwd:wrap64 (k:Int)=(k:Int):=IntWalk.wrap64_in _ (by omega)
        refine hK.out _ _ trivial (fun _=>?_)
        clear hK
        (try simp only [Act.put,List.setIfInBounds_toArray,List.set_cons_zero,List.set_cons_succ])
        refine wpAnyH_take (i:=8) (oi:=⟨some 19,_,_,_,_,_⟩) (v:=?_) rfl (by kernel_rfl) (by kernel_rfl) (by kernel_rfl) (fun _ _ _ h=>h) (Or.inl ⟨by rfl,?_⟩) (by assumption) ?_;rotate_left;(focus (intro w' hSw;(try dsimp only at hSw);go_simp;(try with_reducible rfl)));(try rotate_left);(try simp only [Act.put,List.setIfInBounds_toArray,List.set_cons_zero,List.set_cons_succ])
        refine wpAnyH_ready (rs:=[9]) (by kernel_rfl) (by simp) ?_
        refine AllReadyH.cons (o:=⟨some 20,_,_,_,_,_⟩) rfl (fun K hK=>?_) AllReadyH.nil
        refine step_zeros _ (by rfl) _ _ _ _ (by rfl) w1.heap.size 2 i0 _ .i64 1 8 Try.underlying25 Try.underlying2 hi0 hz0 hz1 hz2 rfl (by omega) (.slice b2 c.words.length q2) _ _ (by rfl) ho4 k (by rfl) hk0 (by rw [zeros_ints];exact ints_one _) (by unfold maxLen;omega) (by omega) (by omega) w4.heap.size rfl ?_
        intro g8 q8 w8 o8 gr8 hat hlt8
        refine hK.out _ _ trivial (fun _=>?_)
        clear hK
        (try simp only [Act.put,List.setIfInBounds_toArray,List.set_cons_zero,List.set_cons_succ])
        have y1:=fun o=>gr8.cell_far ⟨w2.heap.size,o,none⟩ (by (try simp) <;> omega) md2
        have y2:=fun o=>gr8.frozen_far ⟨w2.heap.size,o,none⟩ (by (try simp) <;> omega) md2
        have y3:=fun o=>gr8.cell_far ⟨w.heap.size,o,none⟩ (by (try simp) <;> omega) md0
        have y4:=fun o=>gr8.frozen_far ⟨w.heap.size,o,none⟩ (by (try simp) <;> omega) md0
        have s8:=gr8.size
        have hb8:Below w.heap.size w w8:=bOwn hBw4 gr8 (by omega) (fun k hk=>by have:=lt2 _ hk;omega)
        have l80:w.heap.size<w8.heap.size:=by omega
        have l82:w2.heap.size<w8.heap.size:=by omega
        refine wpAnyH_take (i:=10) (oi:=⟨some 21,_,_,_,_,_⟩) (v:=?_) rfl (by kernel_rfl) (by kernel_rfl) (by kernel_rfl) (fun _ _ _ h=>h) (Or.inl ⟨by rfl,?_⟩) (by assumption) ?_;rotate_left;(focus (intro w' hSw;(try dsimp only at hSw);go_simp;(try with_reducible rfl)));(try rotate_left);(try simp only [Act.put,List.setIfInBounds_toArray,List.set_cons_zero,List.set_cons_succ])
        refine wpAnyH_ready (rs:=[11]) (by kernel_rfl) (by simp) ?_
        refine AllReadyH.cons (o:=⟨none,_,_,_,_,_⟩) rfl (fun K hK=>?_) AllReadyH.nil
        go_simp
        refine hK.out _ _ trivial (fun _=>?_)
        clear hK
        (try simp only [Act.put,List.setIfInBounds_toArray,List.set_cons_zero,List.set_cons_succ])
        refine wpAnyH_done (by kernel_rfl) ?_ _
        have hs8:=Seg.grown hs4 gr8 (Nat.le_refl _) hoff
        have o9:=OInts.zeros o8
        have ng2:(Value.slice (some ⟨g8,0,none⟩) (c.words.length+k) q8).ownBlock≠some w2.heap.size:=fun e=>by
          rcases hat with hat|hat
          · exact md2 (by rw [hat];exact e.symm)
          · simp [Value.ownBlock] at e
            omega
        have ng0:(Value.slice (some ⟨g8,0,none⟩) (c.words.length+k) q8).ownBlock≠some w.heap.size:=fun e=>by
          rcases hat with hat|hat
          · exact md0 (by rw [hat];exact e.symm)
          · simp [Value.ownBlock] at e
            omega
        go_wp2
        refine bodyPost_ret (v:=.agg #[.int .i64 c.cap,.int .i64 c.sent,.int .i64 c.got,.int .i64 c.fin,.slice a2 c.cells.length p2,.slice (some ⟨g8,0,none⟩) (c.words.length+k) q8]) (by simp [results,Try.results25,go_sem, *]) rfl ⟨⟨{ c with words:=c.words ++ List.replicate k 0 },a2,p2,_,rfl,?_,hz,?_,hl1,?_⟩,?_⟩
        · rcases hs.under with h0|hb2
          · exact .inl h0
          · (refine Seg.more (B:=w8.heap.size) ?_ (by simp));(repeat (first|with_reducible exact hs8|with_reducible refine Seg.drew ?_|((with_reducible refine Seg.store ?_ ?_ _);rotate_left;(focus (intro ad e;have:=hlo ad e;have:=hb2 ad e;(try dsimp only);omega)))))
        · (refine own_lo (lo:=w1.heap.size) ?_ (by omega));(repeat (first|with_reducible exact o9|with_reducible refine World.ownsRow.alloc ?_ _|with_reducible refine World.ownsRow.drew ?_|((with_reducible refine own_store ?_ ?_ _);rotate_left;(focus (first|exact ng2|exact ng0)))))
        · simp only [List.length_append,List.length_replicate]
          exact zle hk h40
        · (repeat (with_reducible first|assumption|exact bR|refine bA ?_|refine bD ?_|((first|refine bS ?_ ?_|refine bBx ?_ ?_);rotate_left;focus (try simp) <;> (try omega))))
      · go_simp
        ((go_at_call 59;refine (l1Below_any w.heap.size g 2  _ (by (repeat (first|with_reducible assumption|with_reducible refine DS.alloc ?_|with_reducible refine DS.drew ?_|((with_reducible refine DS.setCell ?_ ?_ ?_);rotate_left;(focus ((try simp);(try omega)));(focus ((try simp);(try omega)))))))  (by omega) (by omega)).mono ?_;rintro _ w4 ⟨⟨x4,rfl,h40,h41⟩,hdw4,hgw4⟩;have hBw4:Below w.heap.size w w4:=bG (by (repeat (with_reducible first|assumption|exact bR|refine bA ?_|refine bD ?_|((first|refine bS ?_ ?_|refine bBx ?_ ?_);rotate_left;focus (try simp) <;> (try omega))))) hgw4 (by omega);have hlw4:=hdw4.lt;have hsw4:=hgw4.size;(try (simp at hsw4));have:=gCell hgw4 (b:=w.heap.size) ((by ((try simp);(try omega)))) (by omega);have:=gFroz hgw4 (b:=w.heap.size) ((by ((try simp);(try omega)))) (by omega);have:w.heap.size<w4.heap.size:=(by omega);have:w.heap.size≤w4.heap.size:=(by omega);have:w.heap.size≤w4.heap.size+1:=(by omega);have:=gCell hgw4 (b:=w2.heap.size) ((by ((try simp);(try omega)))) (by omega);have:=gFroz hgw4 (b:=w2.heap.size) ((by ((try simp);(try omega)))) (by omega);have:w2.heap.size<w4.heap.size:=(by omega);have:w2.heap.size≤w4.heap.size:=(by omega);have:w2.heap.size≤w4.heap.size+1:=(by omega)))
        have hK4:Gr g w3 w4:=gT (by (repeat (first|with_reducible assumption|with_reducible exact gR _ _|with_reducible refine gA ?_|with_reducible refine gD ?_|((with_reducible refine gS ?_ (.inr ?_));rotate_left;(focus ((try simp);(try omega))))))) hgw4
        have hs4:=Seg.gr hs3 hK4 (Nat.le_refl _) (fun ad e=>by have:=hlo ad e;omega)
        have ho4:=ho3.kept hK4 (.inr (own_ne HO.out (by omega)))
        obtain ⟨k,hk⟩:∃ k:Nat,80 - (c.words.length:Int) - x4=(k:Int):=⟨(80 - (c.words.length:Int) - x4).toNat,by omega⟩
        have hk0:0<k:=zpos hk hl2 (by omega)
        have hwc:IntKind.i64.wrap (k:Int)=(k:Int):=IntWalk.i64_in _ (by omega)
        have hwd:wrap64 (k:Int)=(k:Int):=IntWalk.wrap64_in _ (by omega)
        refine hK.out _ _ trivial (fun _=>?_)
        clear hK
        (try simp only [Act.put,List.setIfInBounds_toArray,List.set_cons_zero,List.set_cons_succ])
        refine wpAnyH_ready (rs:=[3]) (by kernel_rfl) (by simp) ?_
        refine AllReadyH.cons (o:=⟨some 14,_,_,_,_,_⟩) rfl (fun K hK=>?_) AllReadyH.nil
        go_simp
        refine hK.out _ _ trivial (fun _=>?_)
        clear hK
        (try simp only [Act.put,List.setIfInBounds_toArray,List.set_cons_zero,List.set_cons_succ])
        refine wpAnyH_take (i:=4) (oi:=⟨some 15,_,_,_,_,_⟩) (v:=?_) rfl (by kernel_rfl) (by kernel_rfl) (by kernel_rfl) (fun _ _ _ h=>h) (Or.inl ⟨by rfl,?_⟩) (by assumption) ?_;rotate_left;(focus (intro w' hSw;(try dsimp only at hSw);go_simp;(try with_reducible rfl)));(try rotate_left);(try simp only [Act.put,List.setIfInBounds_toArray,List.set_cons_zero,List.set_cons_succ])
        refine wpAnyH_take (i:=5) (oi:=⟨some 16,_,_,_,_,_⟩) (v:=?_) rfl (by kernel_rfl) (by kernel_rfl) (by kernel_rfl) (fun _ _ _ h=>h) (Or.inl ⟨by rfl,?_⟩) (by assumption) ?_;rotate_left;(focus (intro w' hSw;(try dsimp only at hSw);go_simp;(try with_reducible rfl)));(try rotate_left);(try simp only [Act.put,List.setIfInBounds_toArray,List.set_cons_zero,List.set_cons_succ])
        refine wpAnyH_take (i:=8) (oi:=⟨some 19,_,_,_,_,_⟩) (v:=?_) rfl (by kernel_rfl) (by kernel_rfl) (by kernel_rfl) (fun _ _ _ h=>h) (Or.inl ⟨by rfl,?_⟩) (by assumption) ?_;rotate_left;(focus (intro w' hSw;(try dsimp only at hSw);go_simp;(try with_reducible rfl)));(try rotate_left);(try simp only [Act.put,List.setIfInBounds_toArray,List.set_cons_zero,List.set_cons_succ])
        refine wpAnyH_ready (rs:=[9]) (by kernel_rfl) (by simp) ?_
        refine AllReadyH.cons (o:=⟨some 20,_,_,_,_,_⟩) rfl (fun K hK=>?_) AllReadyH.nil
        refine step_zeros _ (by rfl) _ _ _ _ (by rfl) w1.heap.size 2 i0 _ .i64 1 8 Try.underlying25 Try.underlying2 hi0 hz0 hz1 hz2 rfl (by omega) (.slice b2 c.words.length q2) _ _ (by rfl) ho4 k (by rfl) hk0 (by rw [zeros_ints];exact ints_one _) (by unfold maxLen;omega) (by omega) (by omega) w4.heap.size rfl ?_
        intro g8 q8 w8 o8 gr8 hat hlt8
        refine hK.out _ _ trivial (fun _=>?_)
        clear hK
        (try simp only [Act.put,List.setIfInBounds_toArray,List.set_cons_zero,List.set_cons_succ])
        have y1:=fun o=>gr8.cell_far ⟨w2.heap.size,o,none⟩ (by (try simp) <;> omega) md2
        have y2:=fun o=>gr8.frozen_far ⟨w2.heap.size,o,none⟩ (by (try simp) <;> omega) md2
        have y3:=fun o=>gr8.cell_far ⟨w.heap.size,o,none⟩ (by (try simp) <;> omega) md0
        have y4:=fun o=>gr8.frozen_far ⟨w.heap.size,o,none⟩ (by (try simp) <;> omega) md0
        have s8:=gr8.size
        have hb8:Below w.heap.size w w8:=bOwn hBw4 gr8 (by omega) (fun k hk=>by have:=lt2 _ hk;omega)
        have l80:w.heap.size<w8.heap.size:=by omega
        have l82:w2.heap.size<w8.heap.size:=by omega
        refine wpAnyH_take (i:=10) (oi:=⟨some 21,_,_,_,_,_⟩) (v:=?_) rfl (by kernel_rfl) (by kernel_rfl) (by kernel_rfl) (fun _ _ _ h=>h) (Or.inl ⟨by rfl,?_⟩) (by assumption) ?_;rotate_left;(focus (intro w' hSw;(try dsimp only at hSw);go_simp;(try with_reducible rfl)));(try rotate_left);(try simp only [Act.put,List.setIfInBounds_toArray,List.set_cons_zero,List.set_cons_succ])
        refine wpAnyH_ready (rs:=[11]) (by kernel_rfl) (by simp) ?_
        refine AllReadyH.cons (o:=⟨none,_,_,_,_,_⟩) rfl (fun K hK=>?_) AllReadyH.nil
        go_simp
        refine hK.out _ _ trivial (fun _=>?_)
        clear hK
        (try simp only [Act.put,List.setIfInBounds_toArray,List.set_cons_zero,List.set_cons_succ])
        refine wpAnyH_done (by kernel_rfl) ?_ _
        have hs8:=Seg.grown hs4 gr8 (Nat.le_refl _) hoff
        have o9:=OInts.zeros o8
        have ng2:(Value.slice (some ⟨g8,0,none⟩) (c.words.length+k) q8).ownBlock≠some w2.heap.size:=fun e=>by
          rcases hat with hat|hat
          · exact md2 (by rw [hat];exact e.symm)
          · simp [Value.ownBlock] at e
            omega
        have ng0:(Value.slice (some ⟨g8,0,none⟩) (c.words.length+k) q8).ownBlock≠some w.heap.size:=fun e=>by
          rcases hat with hat|hat
          · exact md0 (by rw [hat];exact e.symm)
          · simp [Value.ownBlock] at e
            omega
        go_wp2
        refine bodyPost_ret (v:=.agg #[.int .i64 c.cap,.int .i64 c.sent,.int .i64 c.got,.int .i64 c.fin,.slice a2 c.cells.length p2,.slice (some ⟨g8,0,none⟩) (c.words.length+k) q8]) (by simp [results,Try.results25,go_sem, *]) rfl ⟨⟨{ c with words:=c.words ++ List.replicate k 0 },a2,p2,_,rfl,?_,hz,?_,hl1,?_⟩,?_⟩
        · rcases hs.under with h0|hb2
          · exact .inl h0
          · (refine Seg.more (B:=w8.heap.size) ?_ (by simp));(repeat (first|with_reducible exact hs8|with_reducible refine Seg.drew ?_|((with_reducible refine Seg.store ?_ ?_ _);rotate_left;(focus (intro ad e;have:=hlo ad e;have:=hb2 ad e;(try dsimp only);omega)))))
        · (refine own_lo (lo:=w1.heap.size) ?_ (by omega));(repeat (first|with_reducible exact o9|with_reducible refine World.ownsRow.alloc ?_ _|with_reducible refine World.ownsRow.drew ?_|((with_reducible refine own_store ?_ ?_ _);rotate_left;(focus (first|exact ng2|exact ng0)))))
        · simp only [List.length_append,List.length_replicate]
          exact zle hk h40
        · (repeat (with_reducible first|assumption|exact bR|refine bA ?_|refine bD ?_|((first|refine bS ?_ ?_|refine bBx ?_ ?_);rotate_left;focus (try simp) <;> (try omega))))
    · go_simp
      refine hK.out _ _ trivial (fun _=>?_)
      clear hK
      (try simp only [Act.put,List.setIfInBounds_toArray,List.set_cons_zero,List.set_cons_succ])
      refine wpAnyH_take (i:=4) (oi:=⟨some 15,_,_,_,_,_⟩) (v:=?_) rfl (by kernel_rfl) (by kernel_rfl) (by kernel_rfl) (fun _ _ _ h=>h) (Or.inl ⟨by rfl,?_⟩) (by assumption) ?_;rotate_left;(focus (intro w' hSw;(try dsimp only at hSw);go_simp;(try with_reducible rfl)));(try rotate_left);(try simp only [Act.put,List.setIfInBounds_toArray,List.set_cons_zero,List.set_cons_succ])
      refine wpAnyH_take (i:=5) (oi:=⟨some 16,_,_,_,_,_⟩) (v:=?_) rfl (by kernel_rfl) (by kernel_rfl) (by kernel_rfl) (fun _ _ _ h=>h) (Or.inl ⟨by rfl,?_⟩) (by assumption) ?_;rotate_left;(focus (intro w' hSw;(try dsimp only at hSw);go_simp;(try with_reducible rfl)));(try rotate_left);(try simp only [Act.put,List.setIfInBounds_toArray,List.set_cons_zero,List.set_cons_succ])
      refine wpAnyH_ready (rs:=[1,7]) (by kernel_rfl) (by simp) ?_
      refine AllReadyH.cons (o:=⟨some 12,_,_,_,_,_⟩) rfl (fun K hK=>?_) (AllReadyH.cons (o:=⟨some 18,_,_,_,_,_⟩) rfl (fun K hK=>?_) AllReadyH.nil)
      · go_simp
        refine hK.out _ _ trivial (fun _=>?_)
        clear hK
        (try simp only [Act.put,List.setIfInBounds_toArray,List.set_cons_zero,List.set_cons_succ])
        refine wpAnyH_ready (rs:=[7]) (by kernel_rfl) (by simp) ?_
        refine AllReadyH.cons (o:=⟨some 18,_,_,_,_,_⟩) rfl (fun K hK=>?_) AllReadyH.nil
        go_simp
        ((go_at_call 59;refine (l1Below_any w.heap.size g 2  _ (by (repeat (first|with_reducible assumption|with_reducible refine DS.alloc ?_|with_reducible refine DS.drew ?_|((with_reducible refine DS.setCell ?_ ?_ ?_);rotate_left;(focus ((try simp);(try omega)));(focus ((try simp);(try omega)))))))  (by omega) (by omega)).mono ?_;rintro _ w4 ⟨⟨x4,rfl,h40,h41⟩,hdw4,hgw4⟩;have hBw4:Below w.heap.size w w4:=bG (by (repeat (with_reducible first|assumption|exact bR|refine bA ?_|refine bD ?_|((first|refine bS ?_ ?_|refine bBx ?_ ?_);rotate_left;focus (try simp) <;> (try omega))))) hgw4 (by omega);have hlw4:=hdw4.lt;have hsw4:=hgw4.size;(try (simp at hsw4));have:=gCell hgw4 (b:=w.heap.size) ((by ((try simp);(try omega)))) (by omega);have:=gFroz hgw4 (b:=w.heap.size) ((by ((try simp);(try omega)))) (by omega);have:w.heap.size<w4.heap.size:=(by omega);have:w.heap.size≤w4.heap.size:=(by omega);have:w.heap.size≤w4.heap.size+1:=(by omega);have:=gCell hgw4 (b:=w2.heap.size) ((by ((try simp);(try omega)))) (by omega);have:=gFroz hgw4 (b:=w2.heap.size) ((by ((try simp);(try omega)))) (by omega);have:w2.heap.size<w4.heap.size:=(by omega);have:w2.heap.size≤w4.heap.size:=(by omega);have:w2.heap.size≤w4.heap.size+1:=(by omega)))
        have hK4:Gr g w3 w4:=gT (by (repeat (first|with_reducible assumption|with_reducible exact gR _ _|with_reducible refine gA ?_|with_reducible refine gD ?_|((with_reducible refine gS ?_ (.inr ?_));rotate_left;(focus ((try simp);(try omega))))))) hgw4
        have hs4:=Seg.gr hs3 hK4 (Nat.le_refl _) (fun ad e=>by have:=hlo ad e;omega)
        have ho4:=ho3.kept hK4 (.inr (own_ne HO.out (by omega)))
        obtain ⟨k,hk⟩:∃ k:Nat,80 - (c.words.length:Int) - x4=(k:Int):=⟨(80 - (c.words.length:Int) - x4).toNat,by omega⟩
        have hk0:0<k:=zpos hk hl2 (by omega)
        have hwc:IntKind.i64.wrap (k:Int)=(k:Int):=IntWalk.i64_in _ (by omega)
        have hwd:wrap64 (k:Int)=(k:Int):=IntWalk.wrap64_in _ (by omega)
        refine hK.out _ _ trivial (fun _=>?_)
        clear hK
        (try simp only [Act.put,List.setIfInBounds_toArray,List.set_cons_zero,List.set_cons_succ])
        refine wpAnyH_take (i:=8) (oi:=⟨some 19,_,_,_,_,_⟩) (v:=?_) rfl (by kernel_rfl) (by kernel_rfl) (by kernel_rfl) (fun _ _ _ h=>h) (Or.inl ⟨by rfl,?_⟩) (by assumption) ?_;rotate_left;(focus (intro w' hSw;(try dsimp only at hSw);go_simp;(try with_reducible rfl)));(try rotate_left);(try simp only [Act.put,List.setIfInBounds_toArray,List.set_cons_zero,List.set_cons_succ])
        refine wpAnyH_ready (rs:=[9]) (by kernel_rfl) (by simp) ?_
        refine AllReadyH.cons (o:=⟨some 20,_,_,_,_,_⟩) rfl (fun K hK=>?_) AllReadyH.nil
        refine step_zeros _ (by rfl) _ _ _ _ (by rfl) w1.heap.size 2 i0 _ .i64 1 8 Try.underlying25 Try.underlying2 hi0 hz0 hz1 hz2 rfl (by omega) (.slice b2 c.words.length q2) _ _ (by rfl) ho4 k (by rfl) hk0 (by rw [zeros_ints];exact ints_one _) (by unfold maxLen;omega) (by omega) (by omega) w4.heap.size rfl ?_
        intro g8 q8 w8 o8 gr8 hat hlt8
        refine hK.out _ _ trivial (fun _=>?_)
        clear hK
        (try simp only [Act.put,List.setIfInBounds_toArray,List.set_cons_zero,List.set_cons_succ])
        have y1:=fun o=>gr8.cell_far ⟨w2.heap.size,o,none⟩ (by (try simp) <;> omega) md2
        have y2:=fun o=>gr8.frozen_far ⟨w2.heap.size,o,none⟩ (by (try simp) <;> omega) md2
        have y3:=fun o=>gr8.cell_far ⟨w.heap.size,o,none⟩ (by (try simp) <;> omega) md0
        have y4:=fun o=>gr8.frozen_far ⟨w.heap.size,o,none⟩ (by (try simp) <;> omega) md0
        have s8:=gr8.size
        have hb8:Below w.heap.size w w8:=bOwn hBw4 gr8 (by omega) (fun k hk=>by have:=lt2 _ hk;omega)
        have l80:w.heap.size<w8.heap.size:=by omega
        have l82:w2.heap.size<w8.heap.size:=by omega
        refine wpAnyH_take (i:=10) (oi:=⟨some 21,_,_,_,_,_⟩) (v:=?_) rfl (by kernel_rfl) (by kernel_rfl) (by kernel_rfl) (fun _ _ _ h=>h) (Or.inl ⟨by rfl,?_⟩) (by assumption) ?_;rotate_left;(focus (intro w' hSw;(try dsimp only at hSw);go_simp;(try with_reducible rfl)));(try rotate_left);(try simp only [Act.put,List.setIfInBounds_toArray,List.set_cons_zero,List.set_cons_succ])
        refine wpAnyH_ready (rs:=[11]) (by kernel_rfl) (by simp) ?_
        refine AllReadyH.cons (o:=⟨none,_,_,_,_,_⟩) rfl (fun K hK=>?_) AllReadyH.nil
        go_simp
        refine hK.out _ _ trivial (fun _=>?_)
        clear hK
        (try simp only [Act.put,List.setIfInBounds_toArray,List.set_cons_zero,List.set_cons_succ])
        refine wpAnyH_done (by kernel_rfl) ?_ _
        have hs8:=Seg.grown hs4 gr8 (Nat.le_refl _) hoff
        have o9:=OInts.zeros o8
        have ng2:(Value.slice (some ⟨g8,0,none⟩) (c.words.length+k) q8).ownBlock≠some w2.heap.size:=fun e=>by
          rcases hat with hat|hat
          · exact md2 (by rw [hat];exact e.symm)
          · simp [Value.ownBlock] at e
            omega
        have ng0:(Value.slice (some ⟨g8,0,none⟩) (c.words.length+k) q8).ownBlock≠some w.heap.size:=fun e=>by
          rcases hat with hat|hat
          · exact md0 (by rw [hat];exact e.symm)
          · simp [Value.ownBlock] at e
            omega
        go_wp2
        refine bodyPost_ret (v:=.agg #[.int .i64 c.cap,.int .i64 c.sent,.int .i64 c.got,.int .i64 c.fin,.slice a2 c.cells.length p2,.slice (some ⟨g8,0,none⟩) (c.words.length+k) q8]) (by simp [results,Try.results25,go_sem, *]) rfl ⟨⟨{ c with words:=c.words ++ List.replicate k 0 },a2,p2,_,rfl,?_,hz,?_,hl1,?_⟩,?_⟩
        · rcases hs.under with h0|hb2
          · exact .inl h0
          · (refine Seg.more (B:=w8.heap.size) ?_ (by simp));(repeat (first|with_reducible exact hs8|with_reducible refine Seg.drew ?_|((with_reducible refine Seg.store ?_ ?_ _);rotate_left;(focus (intro ad e;have:=hlo ad e;have:=hb2 ad e;(try dsimp only);omega)))))
        · (refine own_lo (lo:=w1.heap.size) ?_ (by omega));(repeat (first|with_reducible exact o9|with_reducible refine World.ownsRow.alloc ?_ _|with_reducible refine World.ownsRow.drew ?_|((with_reducible refine own_store ?_ ?_ _);rotate_left;(focus (first|exact ng2|exact ng0)))))
        · simp only [List.length_append,List.length_replicate]
          exact zle hk h40
        · (repeat (with_reducible first|assumption|exact bR|refine bA ?_|refine bD ?_|((first|refine bS ?_ ?_|refine bBx ?_ ?_);rotate_left;focus (try simp) <;> (try omega))))
      · go_simp
        ((go_at_call 59;refine (l1Below_any w.heap.size g 2  _ (by (repeat (first|with_reducible assumption|with_reducible refine DS.alloc ?_|with_reducible refine DS.drew ?_|((with_reducible refine DS.setCell ?_ ?_ ?_);rotate_left;(focus ((try simp);(try omega)));(focus ((try simp);(try omega)))))))  (by omega) (by omega)).mono ?_;rintro _ w4 ⟨⟨x4,rfl,h40,h41⟩,hdw4,hgw4⟩;have hBw4:Below w.heap.size w w4:=bG (by (repeat (with_reducible first|assumption|exact bR|refine bA ?_|refine bD ?_|((first|refine bS ?_ ?_|refine bBx ?_ ?_);rotate_left;focus (try simp) <;> (try omega))))) hgw4 (by omega);have hlw4:=hdw4.lt;have hsw4:=hgw4.size;(try (simp at hsw4));have:=gCell hgw4 (b:=w.heap.size) ((by ((try simp);(try omega)))) (by omega);have:=gFroz hgw4 (b:=w.heap.size) ((by ((try simp);(try omega)))) (by omega);have:w.heap.size<w4.heap.size:=(by omega);have:w.heap.size≤w4.heap.size:=(by omega);have:w.heap.size≤w4.heap.size+1:=(by omega);have:=gCell hgw4 (b:=w2.heap.size) ((by ((try simp);(try omega)))) (by omega);have:=gFroz hgw4 (b:=w2.heap.size) ((by ((try simp);(try omega)))) (by omega);have:w2.heap.size<w4.heap.size:=(by omega);have:w2.heap.size≤w4.heap.size:=(by omega);have:w2.heap.size≤w4.heap.size+1:=(by omega)))
        have hK4:Gr g w3 w4:=gT (by (repeat (first|with_reducible assumption|with_reducible exact gR _ _|with_reducible refine gA ?_|with_reducible refine gD ?_|((with_reducible refine gS ?_ (.inr ?_));rotate_left;(focus ((try simp);(try omega))))))) hgw4
        have hs4:=Seg.gr hs3 hK4 (Nat.le_refl _) (fun ad e=>by have:=hlo ad e;omega)
        have ho4:=ho3.kept hK4 (.inr (own_ne HO.out (by omega)))
        obtain ⟨k,hk⟩:∃ k:Nat,80 - (c.words.length:Int) - x4=(k:Int):=⟨(80 - (c.words.length:Int) - x4).toNat,by omega⟩
        have hk0:0<k:=zpos hk hl2 (by omega)
        have hwc:IntKind.i64.wrap (k:Int)=(k:Int):=IntWalk.i64_in _ (by omega)
        have hwd:wrap64 (k:Int)=(k:Int):=IntWalk.wrap64_in _ (by omega)
        refine hK.out _ _ trivial (fun _=>?_)
        clear hK
        (try simp only [Act.put,List.setIfInBounds_toArray,List.set_cons_zero,List.set_cons_succ])
        refine wpAnyH_take (i:=8) (oi:=⟨some 19,_,_,_,_,_⟩) (v:=?_) rfl (by kernel_rfl) (by kernel_rfl) (by kernel_rfl) (fun _ _ _ h=>h) (Or.inl ⟨by rfl,?_⟩) (by assumption) ?_;rotate_left;(focus (intro w' hSw;(try dsimp only at hSw);go_simp;(try with_reducible rfl)));(try rotate_left);(try simp only [Act.put,List.setIfInBounds_toArray,List.set_cons_zero,List.set_cons_succ])
        refine wpAnyH_ready (rs:=[1]) (by kernel_rfl) (by simp) ?_
        refine AllReadyH.cons (o:=⟨some 12,_,_,_,_,_⟩) rfl (fun K hK=>?_) AllReadyH.nil
        go_simp
        refine hK.out _ _ trivial (fun _=>?_)
        clear hK
        (try simp only [Act.put,List.setIfInBounds_toArray,List.set_cons_zero,List.set_cons_succ])
        refine wpAnyH_ready (rs:=[9]) (by kernel_rfl) (by simp) ?_
        refine AllReadyH.cons (o:=⟨some 20,_,_,_,_,_⟩) rfl (fun K hK=>?_) AllReadyH.nil
        refine step_zeros _ (by rfl) _ _ _ _ (by rfl) w1.heap.size 2 i0 _ .i64 1 8 Try.underlying25 Try.underlying2 hi0 hz0 hz1 hz2 rfl (by omega) (.slice b2 c.words.length q2) _ _ (by rfl) ho4 k (by rfl) hk0 (by rw [zeros_ints];exact ints_one _) (by unfold maxLen;omega) (by omega) (by omega) w4.heap.size rfl ?_
        intro g8 q8 w8 o8 gr8 hat hlt8
        refine hK.out _ _ trivial (fun _=>?_)
        clear hK
        (try simp only [Act.put,List.setIfInBounds_toArray,List.set_cons_zero,List.set_cons_succ])
        have y1:=fun o=>gr8.cell_far ⟨w2.heap.size,o,none⟩ (by (try simp) <;> omega) md2
        have y2:=fun o=>gr8.frozen_far ⟨w2.heap.size,o,none⟩ (by (try simp) <;> omega) md2
        have y3:=fun o=>gr8.cell_far ⟨w.heap.size,o,none⟩ (by (try simp) <;> omega) md0
        have y4:=fun o=>gr8.frozen_far ⟨w.heap.size,o,none⟩ (by (try simp) <;> omega) md0
        have s8:=gr8.size
        have hb8:Below w.heap.size w w8:=bOwn hBw4 gr8 (by omega) (fun k hk=>by have:=lt2 _ hk;omega)
        have l80:w.heap.size<w8.heap.size:=by omega
        have l82:w2.heap.size<w8.heap.size:=by omega
        refine wpAnyH_take (i:=10) (oi:=⟨some 21,_,_,_,_,_⟩) (v:=?_) rfl (by kernel_rfl) (by kernel_rfl) (by kernel_rfl) (fun _ _ _ h=>h) (Or.inl ⟨by rfl,?_⟩) (by assumption) ?_;rotate_left;(focus (intro w' hSw;(try dsimp only at hSw);go_simp;(try with_reducible rfl)));(try rotate_left);(try simp only [Act.put,List.setIfInBounds_toArray,List.set_cons_zero,List.set_cons_succ])
        refine wpAnyH_ready (rs:=[11]) (by kernel_rfl) (by simp) ?_
        refine AllReadyH.cons (o:=⟨none,_,_,_,_,_⟩) rfl (fun K hK=>?_) AllReadyH.nil
        go_simp
        refine hK.out _ _ trivial (fun _=>?_)
        clear hK
        (try simp only [Act.put,List.setIfInBounds_toArray,List.set_cons_zero,List.set_cons_succ])
        refine wpAnyH_done (by kernel_rfl) ?_ _
        have hs8:=Seg.grown hs4 gr8 (Nat.le_refl _) hoff
        have o9:=OInts.zeros o8
        have ng2:(Value.slice (some ⟨g8,0,none⟩) (c.words.length+k) q8).ownBlock≠some w2.heap.size:=fun e=>by
          rcases hat with hat|hat
          · exact md2 (by rw [hat];exact e.symm)
          · simp [Value.ownBlock] at e
            omega
        have ng0:(Value.slice (some ⟨g8,0,none⟩) (c.words.length+k) q8).ownBlock≠some w.heap.size:=fun e=>by
          rcases hat with hat|hat
          · exact md0 (by rw [hat];exact e.symm)
          · simp [Value.ownBlock] at e
            omega
        go_wp2
        refine bodyPost_ret (v:=.agg #[.int .i64 c.cap,.int .i64 c.sent,.int .i64 c.got,.int .i64 c.fin,.slice a2 c.cells.length p2,.slice (some ⟨g8,0,none⟩) (c.words.length+k) q8]) (by simp [results,Try.results25,go_sem, *]) rfl ⟨⟨{ c with words:=c.words ++ List.replicate k 0 },a2,p2,_,rfl,?_,hz,?_,hl1,?_⟩,?_⟩
        · rcases hs.under with h0|hb2
          · exact .inl h0
          · (refine Seg.more (B:=w8.heap.size) ?_ (by simp));(repeat (first|with_reducible exact hs8|with_reducible refine Seg.drew ?_|((with_reducible refine Seg.store ?_ ?_ _);rotate_left;(focus (intro ad e;have:=hlo ad e;have:=hb2 ad e;(try dsimp only);omega)))))
        · (refine own_lo (lo:=w1.heap.size) ?_ (by omega));(repeat (first|with_reducible exact o9|with_reducible refine World.ownsRow.alloc ?_ _|with_reducible refine World.ownsRow.drew ?_|((with_reducible refine own_store ?_ ?_ _);rotate_left;(focus (first|exact ng2|exact ng0)))))
        · simp only [List.length_append,List.length_replicate]
          exact zle hk h40
        · (repeat (with_reducible first|assumption|exact bR|refine bA ?_|refine bD ?_|((first|refine bS ?_ ?_|refine bBx ?_ ?_);rotate_left;focus (try simp) <;> (try omega))))
    · go_simp
      ((go_at_call 59;refine (l1Below_any w.heap.size g 2  _ (by (repeat (first|with_reducible assumption|with_reducible refine DS.alloc ?_|with_reducible refine DS.drew ?_|((with_reducible refine DS.setCell ?_ ?_ ?_);rotate_left;(focus ((try simp);(try omega)));(focus ((try simp);(try omega)))))))  (by omega) (by omega)).mono ?_;rintro _ w4 ⟨⟨x4,rfl,h40,h41⟩,hdw4,hgw4⟩;have hBw4:Below w.heap.size w w4:=bG (by (repeat (with_reducible first|assumption|exact bR|refine bA ?_|refine bD ?_|((first|refine bS ?_ ?_|refine bBx ?_ ?_);rotate_left;focus (try simp) <;> (try omega))))) hgw4 (by omega);have hlw4:=hdw4.lt;have hsw4:=hgw4.size;(try (simp at hsw4));have:=gCell hgw4 (b:=w.heap.size) ((by ((try simp);(try omega)))) (by omega);have:=gFroz hgw4 (b:=w.heap.size) ((by ((try simp);(try omega)))) (by omega);have:w.heap.size<w4.heap.size:=(by omega);have:w.heap.size≤w4.heap.size:=(by omega);have:w.heap.size≤w4.heap.size+1:=(by omega);have:=gCell hgw4 (b:=w2.heap.size) ((by ((try simp);(try omega)))) (by omega);have:=gFroz hgw4 (b:=w2.heap.size) ((by ((try simp);(try omega)))) (by omega);have:w2.heap.size<w4.heap.size:=(by omega);have:w2.heap.size≤w4.heap.size:=(by omega);have:w2.heap.size≤w4.heap.size+1:=(by omega)))
      have hK4:Gr g w3 w4:=gT (by (repeat (first|with_reducible assumption|with_reducible exact gR _ _|with_reducible refine gA ?_|with_reducible refine gD ?_|((with_reducible refine gS ?_ (.inr ?_));rotate_left;(focus ((try simp);(try omega))))))) hgw4
      have hs4:=Seg.gr hs3 hK4 (Nat.le_refl _) (fun ad e=>by have:=hlo ad e;omega)
      have ho4:=ho3.kept hK4 (.inr (own_ne HO.out (by omega)))
      obtain ⟨k,hk⟩:∃ k:Nat,80 - (c.words.length:Int) - x4=(k:Int):=⟨(80 - (c.words.length:Int) - x4).toNat,by omega⟩
      have hk0:0<k:=zpos hk hl2 (by omega)
      have hwc:IntKind.i64.wrap (k:Int)=(k:Int):=IntWalk.i64_in _ (by omega)
      have hwd:wrap64 (k:Int)=(k:Int):=IntWalk.wrap64_in _ (by omega)
      refine hK.out _ _ trivial (fun _=>?_)
      clear hK
      (try simp only [Act.put,List.setIfInBounds_toArray,List.set_cons_zero,List.set_cons_succ])
      refine wpAnyH_ready (rs:=[1,3]) (by kernel_rfl) (by simp) ?_
      refine AllReadyH.cons (o:=⟨some 12,_,_,_,_,_⟩) rfl (fun K hK=>?_) (AllReadyH.cons (o:=⟨some 14,_,_,_,_,_⟩) rfl (fun K hK=>?_) AllReadyH.nil)
      · go_simp
        refine hK.out _ _ trivial (fun _=>?_)
        clear hK
        (try simp only [Act.put,List.setIfInBounds_toArray,List.set_cons_zero,List.set_cons_succ])
        refine wpAnyH_ready (rs:=[3]) (by kernel_rfl) (by simp) ?_
        refine AllReadyH.cons (o:=⟨some 14,_,_,_,_,_⟩) rfl (fun K hK=>?_) AllReadyH.nil
        go_simp
        refine hK.out _ _ trivial (fun _=>?_)
        clear hK
        (try simp only [Act.put,List.setIfInBounds_toArray,List.set_cons_zero,List.set_cons_succ])
        refine wpAnyH_take (i:=4) (oi:=⟨some 15,_,_,_,_,_⟩) (v:=?_) rfl (by kernel_rfl) (by kernel_rfl) (by kernel_rfl) (fun _ _ _ h=>h) (Or.inl ⟨by rfl,?_⟩) (by assumption) ?_;rotate_left;(focus (intro w' hSw;(try dsimp only at hSw);go_simp;(try with_reducible rfl)));(try rotate_left);(try simp only [Act.put,List.setIfInBounds_toArray,List.set_cons_zero,List.set_cons_succ])
        refine wpAnyH_take (i:=5) (oi:=⟨some 16,_,_,_,_,_⟩) (v:=?_) rfl (by kernel_rfl) (by kernel_rfl) (by kernel_rfl) (fun _ _ _ h=>h) (Or.inl ⟨by rfl,?_⟩) (by assumption) ?_;rotate_left;(focus (intro w' hSw;(try dsimp only at hSw);go_simp;(try with_reducible rfl)));(try rotate_left);(try simp only [Act.put,List.setIfInBounds_toArray,List.set_cons_zero,List.set_cons_succ])
        refine wpAnyH_take (i:=8) (oi:=⟨some 19,_,_,_,_,_⟩) (v:=?_) rfl (by kernel_rfl) (by kernel_rfl) (by kernel_rfl) (fun _ _ _ h=>h) (Or.inl ⟨by rfl,?_⟩) (by assumption) ?_;rotate_left;(focus (intro w' hSw;(try dsimp only at hSw);go_simp;(try with_reducible rfl)));(try rotate_left);(try simp only [Act.put,List.setIfInBounds_toArray,List.set_cons_zero,List.set_cons_succ])
        refine wpAnyH_ready (rs:=[9]) (by kernel_rfl) (by simp) ?_
        refine AllReadyH.cons (o:=⟨some 20,_,_,_,_,_⟩) rfl (fun K hK=>?_) AllReadyH.nil
        refine step_zeros _ (by rfl) _ _ _ _ (by rfl) w1.heap.size 2 i0 _ .i64 1 8 Try.underlying25 Try.underlying2 hi0 hz0 hz1 hz2 rfl (by omega) (.slice b2 c.words.length q2) _ _ (by rfl) ho4 k (by rfl) hk0 (by rw [zeros_ints];exact ints_one _) (by unfold maxLen;omega) (by omega) (by omega) w4.heap.size rfl ?_
        intro g8 q8 w8 o8 gr8 hat hlt8
        refine hK.out _ _ trivial (fun _=>?_)
        clear hK
        (try simp only [Act.put,List.setIfInBounds_toArray,List.set_cons_zero,List.set_cons_succ])
        have y1:=fun o=>gr8.cell_far ⟨w2.heap.size,o,none⟩ (by (try simp) <;> omega) md2
        have y2:=fun o=>gr8.frozen_far ⟨w2.heap.size,o,none⟩ (by (try simp) <;> omega) md2
        have y3:=fun o=>gr8.cell_far ⟨w.heap.size,o,none⟩ (by (try simp) <;> omega) md0
        have y4:=fun o=>gr8.frozen_far ⟨w.heap.size,o,none⟩ (by (try simp) <;> omega) md0
        have s8:=gr8.size
        have hb8:Below w.heap.size w w8:=bOwn hBw4 gr8 (by omega) (fun k hk=>by have:=lt2 _ hk;omega)
        have l80:w.heap.size<w8.heap.size:=by omega
        have l82:w2.heap.size<w8.heap.size:=by omega
        refine wpAnyH_take (i:=10) (oi:=⟨some 21,_,_,_,_,_⟩) (v:=?_) rfl (by kernel_rfl) (by kernel_rfl) (by kernel_rfl) (fun _ _ _ h=>h) (Or.inl ⟨by rfl,?_⟩) (by assumption) ?_;rotate_left;(focus (intro w' hSw;(try dsimp only at hSw);go_simp;(try with_reducible rfl)));(try rotate_left);(try simp only [Act.put,List.setIfInBounds_toArray,List.set_cons_zero,List.set_cons_succ])
        refine wpAnyH_ready (rs:=[11]) (by kernel_rfl) (by simp) ?_
        refine AllReadyH.cons (o:=⟨none,_,_,_,_,_⟩) rfl (fun K hK=>?_) AllReadyH.nil
        go_simp
        refine hK.out _ _ trivial (fun _=>?_)
        clear hK
        (try simp only [Act.put,List.setIfInBounds_toArray,List.set_cons_zero,List.set_cons_succ])
        refine wpAnyH_done (by kernel_rfl) ?_ _
        have hs8:=Seg.grown hs4 gr8 (Nat.le_refl _) hoff
        have o9:=OInts.zeros o8
        have ng2:(Value.slice (some ⟨g8,0,none⟩) (c.words.length+k) q8).ownBlock≠some w2.heap.size:=fun e=>by
          rcases hat with hat|hat
          · exact md2 (by rw [hat];exact e.symm)
          · simp [Value.ownBlock] at e
            omega
        have ng0:(Value.slice (some ⟨g8,0,none⟩) (c.words.length+k) q8).ownBlock≠some w.heap.size:=fun e=>by
          rcases hat with hat|hat
          · exact md0 (by rw [hat];exact e.symm)
          · simp [Value.ownBlock] at e
            omega
        go_wp2
        refine bodyPost_ret (v:=.agg #[.int .i64 c.cap,.int .i64 c.sent,.int .i64 c.got,.int .i64 c.fin,.slice a2 c.cells.length p2,.slice (some ⟨g8,0,none⟩) (c.words.length+k) q8]) (by simp [results,Try.results25,go_sem, *]) rfl ⟨⟨{ c with words:=c.words ++ List.replicate k 0 },a2,p2,_,rfl,?_,hz,?_,hl1,?_⟩,?_⟩
        · rcases hs.under with h0|hb2
          · exact .inl h0
          · (refine Seg.more (B:=w8.heap.size) ?_ (by simp));(repeat (first|with_reducible exact hs8|with_reducible refine Seg.drew ?_|((with_reducible refine Seg.store ?_ ?_ _);rotate_left;(focus (intro ad e;have:=hlo ad e;have:=hb2 ad e;(try dsimp only);omega)))))
        · (refine own_lo (lo:=w1.heap.size) ?_ (by omega));(repeat (first|with_reducible exact o9|with_reducible refine World.ownsRow.alloc ?_ _|with_reducible refine World.ownsRow.drew ?_|((with_reducible refine own_store ?_ ?_ _);rotate_left;(focus (first|exact ng2|exact ng0)))))
        · simp only [List.length_append,List.length_replicate]
          exact zle hk h40
        · (repeat (with_reducible first|assumption|exact bR|refine bA ?_|refine bD ?_|((first|refine bS ?_ ?_|refine bBx ?_ ?_);rotate_left;focus (try simp) <;> (try omega))))
      · go_simp
        refine hK.out _ _ trivial (fun _=>?_)
        clear hK
        (try simp only [Act.put,List.setIfInBounds_toArray,List.set_cons_zero,List.set_cons_succ])
        refine wpAnyH_take (i:=4) (oi:=⟨some 15,_,_,_,_,_⟩) (v:=?_) rfl (by kernel_rfl) (by kernel_rfl) (by kernel_rfl) (fun _ _ _ h=>h) (Or.inl ⟨by rfl,?_⟩) (by assumption) ?_;rotate_left;(focus (intro w' hSw;(try dsimp only at hSw);go_simp;(try with_reducible rfl)));(try rotate_left);(try simp only [Act.put,List.setIfInBounds_toArray,List.set_cons_zero,List.set_cons_succ])
        refine wpAnyH_take (i:=5) (oi:=⟨some 16,_,_,_,_,_⟩) (v:=?_) rfl (by kernel_rfl) (by kernel_rfl) (by kernel_rfl) (fun _ _ _ h=>h) (Or.inl ⟨by rfl,?_⟩) (by assumption) ?_;rotate_left;(focus (intro w' hSw;(try dsimp only at hSw);go_simp;(try with_reducible rfl)));(try rotate_left);(try simp only [Act.put,List.setIfInBounds_toArray,List.set_cons_zero,List.set_cons_succ])
        refine wpAnyH_take (i:=8) (oi:=⟨some 19,_,_,_,_,_⟩) (v:=?_) rfl (by kernel_rfl) (by kernel_rfl) (by kernel_rfl) (fun _ _ _ h=>h) (Or.inl ⟨by rfl,?_⟩) (by assumption) ?_;rotate_left;(focus (intro w' hSw;(try dsimp only at hSw);go_simp;(try with_reducible rfl)));(try rotate_left);(try simp only [Act.put,List.setIfInBounds_toArray,List.set_cons_zero,List.set_cons_succ])
        refine wpAnyH_ready (rs:=[1]) (by kernel_rfl) (by simp) ?_
        refine AllReadyH.cons (o:=⟨some 12,_,_,_,_,_⟩) rfl (fun K hK=>?_) AllReadyH.nil
        go_simp
        refine hK.out _ _ trivial (fun _=>?_)
        clear hK
        (try simp only [Act.put,List.setIfInBounds_toArray,List.set_cons_zero,List.set_cons_succ])
        refine wpAnyH_ready (rs:=[9]) (by kernel_rfl) (by simp) ?_
        refine AllReadyH.cons (o:=⟨some 20,_,_,_,_,_⟩) rfl (fun K hK=>?_) AllReadyH.nil
        refine step_zeros _ (by rfl) _ _ _ _ (by rfl) w1.heap.size 2 i0 _ .i64 1 8 Try.underlying25 Try.underlying2 hi0 hz0 hz1 hz2 rfl (by omega) (.slice b2 c.words.length q2) _ _ (by rfl) ho4 k (by rfl) hk0 (by rw [zeros_ints];exact ints_one _) (by unfold maxLen;omega) (by omega) (by omega) w4.heap.size rfl ?_
        intro g8 q8 w8 o8 gr8 hat hlt8
        refine hK.out _ _ trivial (fun _=>?_)
        clear hK
        (try simp only [Act.put,List.setIfInBounds_toArray,List.set_cons_zero,List.set_cons_succ])
        have y1:=fun o=>gr8.cell_far ⟨w2.heap.size,o,none⟩ (by (try simp) <;> omega) md2
        have y2:=fun o=>gr8.frozen_far ⟨w2.heap.size,o,none⟩ (by (try simp) <;> omega) md2
        have y3:=fun o=>gr8.cell_far ⟨w.heap.size,o,none⟩ (by (try simp) <;> omega) md0
        have y4:=fun o=>gr8.frozen_far ⟨w.heap.size,o,none⟩ (by (try simp) <;> omega) md0
        have s8:=gr8.size
        have hb8:Below w.heap.size w w8:=bOwn hBw4 gr8 (by omega) (fun k hk=>by have:=lt2 _ hk;omega)
        have l80:w.heap.size<w8.heap.size:=by omega
        have l82:w2.heap.size<w8.heap.size:=by omega
        refine wpAnyH_take (i:=10) (oi:=⟨some 21,_,_,_,_,_⟩) (v:=?_) rfl (by kernel_rfl) (by kernel_rfl) (by kernel_rfl) (fun _ _ _ h=>h) (Or.inl ⟨by rfl,?_⟩) (by assumption) ?_;rotate_left;(focus (intro w' hSw;(try dsimp only at hSw);go_simp;(try with_reducible rfl)));(try rotate_left);(try simp only [Act.put,List.setIfInBounds_toArray,List.set_cons_zero,List.set_cons_succ])
        refine wpAnyH_ready (rs:=[11]) (by kernel_rfl) (by simp) ?_
        refine AllReadyH.cons (o:=⟨none,_,_,_,_,_⟩) rfl (fun K hK=>?_) AllReadyH.nil
        go_simp
        refine hK.out _ _ trivial (fun _=>?_)
        clear hK
        (try simp only [Act.put,List.setIfInBounds_toArray,List.set_cons_zero,List.set_cons_succ])
        refine wpAnyH_done (by kernel_rfl) ?_ _
        have hs8:=Seg.grown hs4 gr8 (Nat.le_refl _) hoff
        have o9:=OInts.zeros o8
        have ng2:(Value.slice (some ⟨g8,0,none⟩) (c.words.length+k) q8).ownBlock≠some w2.heap.size:=fun e=>by
          rcases hat with hat|hat
          · exact md2 (by rw [hat];exact e.symm)
          · simp [Value.ownBlock] at e
            omega
        have ng0:(Value.slice (some ⟨g8,0,none⟩) (c.words.length+k) q8).ownBlock≠some w.heap.size:=fun e=>by
          rcases hat with hat|hat
          · exact md0 (by rw [hat];exact e.symm)
          · simp [Value.ownBlock] at e
            omega
        go_wp2
        refine bodyPost_ret (v:=.agg #[.int .i64 c.cap,.int .i64 c.sent,.int .i64 c.got,.int .i64 c.fin,.slice a2 c.cells.length p2,.slice (some ⟨g8,0,none⟩) (c.words.length+k) q8]) (by simp [results,Try.results25,go_sem, *]) rfl ⟨⟨{ c with words:=c.words ++ List.replicate k 0 },a2,p2,_,rfl,?_,hz,?_,hl1,?_⟩,?_⟩
        · rcases hs.under with h0|hb2
          · exact .inl h0
          · (refine Seg.more (B:=w8.heap.size) ?_ (by simp));(repeat (first|with_reducible exact hs8|with_reducible refine Seg.drew ?_|((with_reducible refine Seg.store ?_ ?_ _);rotate_left;(focus (intro ad e;have:=hlo ad e;have:=hb2 ad e;(try dsimp only);omega)))))
        · (refine own_lo (lo:=w1.heap.size) ?_ (by omega));(repeat (first|with_reducible exact o9|with_reducible refine World.ownsRow.alloc ?_ _|with_reducible refine World.ownsRow.drew ?_|((with_reducible refine own_store ?_ ?_ _);rotate_left;(focus (first|exact ng2|exact ng0)))))
        · simp only [List.length_append,List.length_replicate]
          exact zle hk h40
        · (repeat (with_reducible first|assumption|exact bR|refine bA ?_|refine bD ?_|((first|refine bS ?_ ?_|refine bBx ?_ ?_);rotate_left;focus (try simp) <;> (try omega))))
end Go.Proofs.Ytikhaaccgoiaeaa
set_option linter.unusedSimpArgs false
set_option linter.unusedVariables false
namespace Go.Proofs.Ytikhaaccgoiaeaa
open Go.RowKit
set_option maxHeartbeats 400000 in
theorem isWaiter_any (c:Ch) (v:Int) (b:Option Addr) (q:Nat) (w:World) :
    Calls Try.prog 61 #[.slice b c.words.length q,.int .i64 v] w fun r w'=>r=.returned (.bool (hasW c v))∧Below w.heap.size w w':=by
  go_enter Try.func61,Try.ntmps61
  go_wp2
  all_goals go_ret
  all_goals exact ⟨ret_bool (by simp [hasW,inB, *] <;> omega),by (repeat (with_reducible first|assumption|exact bR|refine bA ?_|refine bD ?_|((first|refine bS ?_ ?_|refine bBx ?_ ?_);rotate_left;focus (try simp) <;> (try omega))))⟩
set_option maxRecDepth 100000 in
set_option maxHeartbeats 1000000 in
theorem wordOf_any (c:Ch) (v:Int) (a b:Option Addr) (p q:Nat) (w:World) (h1:Seg w w.heap.size a c.cells.length 3 (cellF c.cells)) (h2:Seg w w.heap.size b c.words.length 1 (intF c.words)) (m1:c.cells.length≤maxLen) (m2:c.words.length≤maxLen) :
    Calls Try.prog 29 #[.agg #[.int .i64 c.cap,.int .i64 c.sent,.int .i64 c.got,.int .i64 c.fin,.slice a c.cells.length p,.slice b c.words.length q],.int .i64 v] w fun r w'=>r=.returned (.int .i64 (wordOf c v))∧Below w.heap.size w w':=by
  have H1:=Lib.hid h1
  have H2:=Lib.hid h2
  have m3:=m2
  unfold maxLen at m3
  clear h1 h2
  by_cases hc:chanOk c=true
  · by_cases hh:hasW c v=true
    · obtain ⟨v1,v2⟩:=hasW_iff.1 hh
      obtain ⟨i,rfl⟩:∃ i:Nat,v=(i:Int)+1:=⟨(v - 1).toNat,by omega⟩
      have hi:i<c.words.length:=by omega
      obtain ⟨bb,bo,rfl,hb,hcell⟩:∃ b' o,b=some ⟨b',o,none⟩∧b'<w.heap.size∧w.cell? ⟨b',o+i,none⟩=some (.int .i64 (c.words.getD i 0)):=by
        rcases H2.out with h0|⟨b',o',e,h1,h2⟩
        · omega
        · exact ⟨b',o',e,h1,by simpa [intF] using h2 i 0 hi (by omega)⟩
      have HV:=Lib.hid (wordOf_yes hc hh)
      have e:wordAt c ((i:Int)+1)=c.words.getD i 0:=by simp [wordAt]
      have HE:=Lib.hid e
      clear e
      generalize c.words.getD i 0=x at hcell HE
      have hi0:(0:Int)≤(i:Int):=by omega
      have hi1:(i:Int)<(c.words.length:Int):=by omega
      go_enter Try.func29,Try.ntmps29
      go_wp2_with fail
      refine (chanOk_any c a _ p q _ (((H1.out).below (by (repeat (with_reducible first|assumption|exact bR|refine bA ?_|refine bD ?_|((first|refine bS ?_ ?_|refine bBx ?_ ?_);rotate_left;focus (try simp) <;> (try omega)))))).more (by simp)) (((H2.out).below (by (repeat (with_reducible first|assumption|exact bR|refine bA ?_|refine bD ?_|((first|refine bS ?_ ?_|refine bBx ?_ ?_);rotate_left;focus (try simp) <;> (try omega)))))).more (by simp)) m1 m2).mono ?_
      rintro _ w1 ⟨rfl,hb1⟩
      have hB1:Below w.heap.size w w1:=bT (by (repeat (with_reducible first|assumption|exact bR|refine bA ?_|refine bD ?_|((first|refine bS ?_ ?_|refine bBx ?_ ?_);rotate_left;focus (try simp) <;> (try omega))))) hb1
      have hs1:=hb1.size
      simp at hs1
      have:=fun o=>hb1.cell (p:=⟨w.heap.size,o,none⟩) (by simp)
      have hcell1:=(hB1.cell (p:=⟨bb,bo+i,none⟩) hb).trans hcell
      go_wp2_with fail
      refine (isWaiter_any c _ _ q _).mono ?_
      rintro _ w2 ⟨rfl,hb2⟩
      have hB2:Below w.heap.size w w2:=bT (by (repeat (with_reducible first|assumption|exact bR|refine bA ?_|refine bD ?_|((first|refine bS ?_ ?_|refine bBx ?_ ?_);rotate_left;focus (try simp) <;> (try omega))))) hb2
      have:=fun o=>hb2.cell (p:=⟨w.heap.size,o,none⟩) (by simp;omega)
      have hcell2:=(hB2.cell (p:=⟨bb,bo+i,none⟩) hb).trans hcell
      go_wp2
      go_ret
      exact ⟨ret_i64 (by rw [← HV.out,HE.out]),by (repeat (with_reducible first|assumption|exact bR|refine bA ?_|refine bD ?_|((first|refine bS ?_ ?_|refine bBx ?_ ?_);rotate_left;focus (try simp) <;> (try omega))))⟩
    · have HV:=Lib.hid (wordOf_no (c:=c) (v:=v) (by simp [hh]))
      go_enter Try.func29,Try.ntmps29
      go_wp2_with fail
      refine (chanOk_any c a b p q _ (((H1.out).below (by (repeat (with_reducible first|assumption|exact bR|refine bA ?_|refine bD ?_|((first|refine bS ?_ ?_|refine bBx ?_ ?_);rotate_left;focus (try simp) <;> (try omega)))))).more (by simp)) (((H2.out).below (by (repeat (with_reducible first|assumption|exact bR|refine bA ?_|refine bD ?_|((first|refine bS ?_ ?_|refine bBx ?_ ?_);rotate_left;focus (try simp) <;> (try omega)))))).more (by simp)) m1 m2).mono ?_
      rintro _ w1 ⟨rfl,hb1⟩
      have hB1:Below w.heap.size w w1:=bT (by (repeat (with_reducible first|assumption|exact bR|refine bA ?_|refine bD ?_|((first|refine bS ?_ ?_|refine bBx ?_ ?_);rotate_left;focus (try simp) <;> (try omega))))) hb1
      have hs1:=hb1.size
      simp at hs1
      have:=fun o=>hb1.cell (p:=⟨w.heap.size,o,none⟩) (by simp)
      go_wp2_with fail
      refine (isWaiter_any c _ b q _).mono ?_
      rintro _ w2 ⟨rfl,hb2⟩
      have hB2:Below w.heap.size w w2:=bT (by (repeat (with_reducible first|assumption|exact bR|refine bA ?_|refine bD ?_|((first|refine bS ?_ ?_|refine bBx ?_ ?_);rotate_left;focus (try simp) <;> (try omega))))) hb2
      go_wp2
      go_ret
      exact ⟨ret_i64 HV.out,by (repeat (with_reducible first|assumption|exact bR|refine bA ?_|refine bD ?_|((first|refine bS ?_ ?_|refine bBx ?_ ?_);rotate_left;focus (try simp) <;> (try omega))))⟩
  · have HV:=Lib.hid (wordOf_no (c:=c) (v:=v) (by simp [hc]))
    go_enter Try.func29,Try.ntmps29
    go_wp2_with fail
    refine (chanOk_any c a b p q _ (((H1.out).below (by (repeat (with_reducible first|assumption|exact bR|refine bA ?_|refine bD ?_|((first|refine bS ?_ ?_|refine bBx ?_ ?_);rotate_left;focus (try simp) <;> (try omega)))))).more (by simp)) (((H2.out).below (by (repeat (with_reducible first|assumption|exact bR|refine bA ?_|refine bD ?_|((first|refine bS ?_ ?_|refine bBx ?_ ?_);rotate_left;focus (try simp) <;> (try omega)))))).more (by simp)) m1 m2).mono ?_
    rintro _ w1 ⟨rfl,hb1⟩
    have hB1:Below w.heap.size w w1:=bT (by (repeat (with_reducible first|assumption|exact bR|refine bA ?_|refine bD ?_|((first|refine bS ?_ ?_|refine bBx ?_ ?_);rotate_left;focus (try simp) <;> (try omega))))) hb1
    go_wp2
    go_ret
    exact ⟨ret_i64 HV.out,by (repeat (with_reducible first|assumption|exact bR|refine bA ?_|refine bD ?_|((first|refine bS ?_ ?_|refine bBx ?_ ?_);rotate_left;focus (try simp) <;> (try omega))))⟩
theorem eqlNil (t e:TypeId) (a:Option Addr) (l c:Nat) (h:Try.prog.underlying t=some (.slice e)) (w:World):(binOp .eql t (.slice a l c) (.slice none 0 0)).run Try.prog w=.ok (.bool a.isNone) w:=by
  simp only [binOp]
  simp [run_equal_slice_nil w t e a l c h]
set_option maxHeartbeats 400000 in
theorem cloneI_any (l:List Int) (b:Option Addr) (q:Nat) (w:World) (h:Seg w w.heap.size b l.length 1 (intF l)) (hz:b=none→q=0) (hm:l.length≤1099511627776) :
    Calls Try.prog 75 #[.slice b l.length q] w fun r w'=>(∃ v,r=.returned v∧OInts w' w.heap.size v l)∧Below w.heap.size w w':=by
  obtain ⟨i0,hi0,hz0,hz1,hz2⟩:=info_parts infoInt
  have hE:=eqlNil _ _ b l.length q Try.underlying25
  rcases b with _|⟨bb,bo,sp⟩
  · obtain rfl:=hz rfl
    have hn:l.length=0:=by rcases h with h|⟨_,_,h,_⟩;exact h;cases h
    obtain rfl:l=[]:=List.eq_nil_of_length_eq_zero hn
    simp at hE
    go_enter Try.func75,Try.ntmps75
    go_wp2
    go_ret
    exact ⟨⟨_,rfl,World.ownsRow_nil _ _ _ _⟩,by (repeat (with_reducible first|assumption|exact bR|refine bA ?_|refine bD ?_|((first|refine bS ?_ ?_|refine bBx ?_ ?_);rotate_left;focus (try simp) <;> (try omega))))⟩
  · have HN:Hid (∀ j u,(ints l)[j]?=some u→w.cell? ((⟨bb,bo,sp⟩:Addr).add j)=some u):=by
      rcases h with h0|⟨b',o',e,h1,h2⟩
      · obtain rfl:l=[]:=List.eq_nil_of_length_eq_zero h0
        intro j u hu;simp [ints] at hu
      · simp at e
        obtain ⟨rfl,rfl,rfl⟩:=e
        exact Seg.newsI (.inr ⟨bb,bo,rfl,h1,h2⟩)
    clear h hz
    simp at hE
    go_enter Try.func75,Try.ntmps75
    go_wp2_with (at_builtin;refine wpList_append_own _ rfl _ _ 25 rfl w.heap.size 2 i0 _ 1 8 Try.underlying25 hi0 hz0 hz1 hz2 rfl (by decide) _ 0 [] rfl (own_made _ _ _ _ (Nat.le_refl _)) ⟨bb,bo,sp⟩ l.length q (ints l) rfl (by simp [ints]) ?c0 (ints_one l) ?c3 ?c4 ?c5 ?_)
    case c0=>exact fun j u hu=>cell_alloc_of (HN.out j u hu)
    case c3=>unfold maxLen;omega
    case c4=>omega
    case c5=>simp
    intro v w1 hown hg _
    go_wp2
    go_ret
    exact ⟨⟨_,rfl,by simpa using hown⟩,bOwn (by (repeat (with_reducible first|assumption|exact bR|refine bA ?_|refine bD ?_|((first|refine bS ?_ ?_|refine bBx ?_ ?_);rotate_left;focus (try simp) <;> (try omega))))) hg (by simp) (by simp [Value.ownBlock])⟩
set_option maxHeartbeats 400000 in
theorem cloneC_any (l:List C3) (b:Option Addr) (q:Nat) (w:World) (h:Seg w w.heap.size b l.length 3 (cellF l)) (hz:b=none→q=0) (hm:l.length≤1099511627776) :
    Calls Try.prog 74 #[.slice b l.length q] w fun r w'=>(∃ v,r=.returned v∧OCells w' w.heap.size v l)∧Below w.heap.size w w':=by
  obtain ⟨i0,hi0,hz0,hz1,hz2⟩:=info_parts infoCell'
  have hE:=eqlNil _ _ b l.length q Try.underlying24
  rcases b with _|⟨bb,bo,sp⟩
  · obtain rfl:=hz rfl
    have hn:l.length=0:=by rcases h with h|⟨_,_,h,_⟩;exact h;cases h
    obtain rfl:l=[]:=List.eq_nil_of_length_eq_zero hn
    simp at hE
    go_enter Try.func74,Try.ntmps74
    go_wp2
    go_ret
    exact ⟨⟨_,rfl,World.ownsRow_nil _ _ _ _⟩,by (repeat (with_reducible first|assumption|exact bR|refine bA ?_|refine bD ?_|((first|refine bS ?_ ?_|refine bBx ?_ ?_);rotate_left;focus (try simp) <;> (try omega))))⟩
  · have HN:Hid (∀ j u,(flatC l)[j]?=some u→w.cell? ((⟨bb,bo,sp⟩:Addr).add j)=some u):=by
      rcases h with h0|⟨b',o',e,h1,h2⟩
      · obtain rfl:l=[]:=List.eq_nil_of_length_eq_zero h0
        intro j u hu;simp [flatC] at hu
      · simp at e
        obtain ⟨rfl,rfl,rfl⟩:=e
        exact Seg.newsC (.inr ⟨bb,bo,rfl,h1,h2⟩)
    clear h hz
    simp at hE
    go_enter Try.func74,Try.ntmps74
    go_wp2_with (at_builtin;refine wpList_append_own _ rfl _ _ 24 rfl w.heap.size 62 i0 _ 3 24 Try.underlying24 hi0 hz0 hz1 hz2 rfl (by decide) _ 0 [] rfl (own_made _ _ _ _ (Nat.le_refl _)) ⟨bb,bo,sp⟩ l.length q (flatC l) rfl (flatC_len l) ?c0 (flatC_one l) ?c3 ?c4 ?c5 ?_)
    case c0=>exact fun j u hu=>cell_alloc_of (HN.out j u hu)
    case c3=>unfold maxLen;omega
    case c4=>omega
    case c5=>simp
    intro v w1 hown hg _
    go_wp2
    go_ret
    exact ⟨⟨_,rfl,by simpa using hown⟩,bOwn (by (repeat (with_reducible first|assumption|exact bR|refine bA ?_|refine bD ?_|((first|refine bS ?_ ?_|refine bBx ?_ ?_);rotate_left;focus (try simp) <;> (try omega))))) hg (by simp) (by simp [Value.ownBlock])⟩
end Go.Proofs.Ytikhaaccgoiaeaa
set_option linter.unusedSimpArgs false
set_option linter.unusedVariables false
namespace Go.Proofs.Ytikhaaccgoiaeaa
open Go.RowKit
set_option maxRecDepth 100000 in
set_option maxHeartbeats 1000000 in
theorem copied_any (c:Ch) (a b:Option Addr) (p q:Nat) (w:World) (h1:Seg w w.heap.size a c.cells.length 3 (cellF c.cells)) (z1:a=none→p=0) (h2:Seg w w.heap.size b c.words.length 1 (intF c.words)) (z2:b=none→q=0) (m1:c.cells.length≤1099511627776) (m2:c.words.length≤1099511627776) :
    Calls Try.prog 55 #[.agg #[.int .i64 c.cap,.int .i64 c.sent,.int .i64 c.got,.int .i64 c.fin,.slice a c.cells.length p,.slice b c.words.length q]] w fun r w' =>
      (∃ v1 v2,r=.returned (.agg #[.int .i64 c.cap,.int .i64 c.sent,.int .i64 c.got,.int .i64 c.fin,v1,v2])∧OCells w' w.heap.size v1 c.cells∧OInts w' w.heap.size v2 c.words)∧Below w.heap.size w w':=by
  obtain ⟨cap,sent,got,fin,cells,words⟩:=c
  simp only at *
  have H1:=Lib.hid h1
  have Z1:=Lib.hid z1
  have H2:=Lib.hid h2
  have Z2:=Lib.hid z2
  clear h1 h2 z1 z2
  go_enter Try.func55,Try.ntmps55
  go_wp2_with fail
  refine (cloneC_any cells a p _ ((H1.out.below (by (repeat (with_reducible first|assumption|exact bR|refine bA ?_|refine bD ?_|((first|refine bS ?_ ?_|refine bBx ?_ ?_);rotate_left;focus (try simp) <;> (try omega)))))).more (by simp;try omega)) Z1.out m1).mono ?_
  rintro _ w1 ⟨⟨v1,rfl,o1⟩,hb1⟩
  have hs1:=hb1.size
  simp at hs1
  have:=fun o=>hb1.cell (p:=⟨w.heap.size,o,none⟩) (by simp;omega)
  have:=fun o=>hb1.frozen (p:=⟨w.heap.size,o,none⟩) (by simp;omega)
  have:=fun o=>hb1.cell (p:=⟨w.heap.size+1,o,none⟩) (by simp)
  have:=fun o=>hb1.frozen (p:=⟨w.heap.size+1,o,none⟩) (by simp)
  have hB1:Below w.heap.size w w1:=bT (by (repeat (with_reducible first|assumption|exact bR|refine bA ?_|refine bD ?_|((first|refine bS ?_ ?_|refine bBx ?_ ?_);rotate_left;focus (try simp) <;> (try omega))))) hb1
  have k0:w.heap.size<w1.heap.size:=by omega
  have k1:w.heap.size+1<w1.heap.size:=by omega
  have o1':=own_lo o1 (lo':=w.heap.size+1+1) (by simp)
  obtain ⟨va,vc,rfl,_⟩:=OCells.seg o1
  clear o1 hb1
  go_wp2_with fail
  refine (cloneI_any words b q _ ((H2.out.below hB1).setOther (by simp [World.setCell];omega) (by simp)) Z2.out m2).mono ?_
  rintro _ w2 ⟨⟨v2,rfl,o2⟩,hb2⟩
  have p1:=own_below (own_store o1' (p:=⟨w.heap.size,4,none⟩) (own_ne o1' (by (try simp);try omega)) (.slice va cells.length vc)) hb2
  have p2:=own_lo o2 (lo':=w.heap.size+1+1) (by simp [World.setCell];omega)
  obtain ⟨vb,vd,rfl,_⟩:=OInts.seg o2
  clear o2
  have hs2:=hb2.size
  simp [World.setCell] at hs2
  have hB2:Below w.heap.size w w2:=bT (by (repeat (with_reducible first|assumption|exact bR|refine bA ?_|refine bD ?_|((first|refine bS ?_ ?_|refine bBx ?_ ?_);rotate_left;focus (try simp) <;> (try omega))))) hb2
  have:=fun o=>hb2.cell (p:=⟨w.heap.size,o,none⟩) (by simp [World.setCell];omega)
  have:=fun o=>hb2.frozen (p:=⟨w.heap.size,o,none⟩) (by simp [World.setCell];omega)
  have:=fun o=>hb2.cell (p:=⟨w.heap.size+1,o,none⟩) (by simp [World.setCell];omega)
  have:=fun o=>hb2.frozen (p:=⟨w.heap.size+1,o,none⟩) (by simp [World.setCell];omega)
  clear hb2
  have:w.heap.size<w2.heap.size:=by omega
  have:w.heap.size+1<w2.heap.size:=by omega
  go_wp2_with fail
  refine bodyPost_ret (v:=.agg #[.int .i64 cap,.int .i64 sent,.int .i64 got,.int .i64 fin,.slice va cells.length vc,.slice vb words.length vd]) (by simp [results,Try.results55,go_sem, *]) rfl ⟨⟨_,_,rfl,?_,?_⟩,?_⟩
  · refine own_lo (lo:=w.heap.size+1+1) ?_ (by omega)
    repeat (first|with_reducible exact p1|((with_reducible refine own_store ?_ ?_ _);rotate_left;(focus exact own_ne p1 (by (try simp);try omega))))
  · refine own_lo (lo:=w.heap.size+1+1) ?_ (by omega)
    repeat (first|with_reducible exact p2|((with_reducible refine own_store ?_ ?_ _);rotate_left;(focus exact own_ne p2 (by (try simp);try omega))))
  · (repeat (with_reducible first|assumption|exact bR|refine bA ?_|refine bD ?_|((first|refine bS ?_ ?_|refine bBx ?_ ?_);rotate_left;focus (try simp) <;> (try omega))))
end Go.Proofs.Ytikhaaccgoiaeaa
set_option linter.unusedSimpArgs false
set_option linter.unusedVariables false
namespace Go.Proofs.Ytikhaaccgoiaeaa
open Go.RowKit
theorem gr_of_below {w w':World} {row:Option Nat} (h:Below w.heap.size w w'):w.grownBy w' row:=⟨h.os,h.tape,h.output,h.size,fun i hi _=>h.block i hi⟩
theorem gr_set {w w':World} {g:Nat} (h:Below w.heap.size w w') (o:Nat) (u:Value):w.grownBy (w'.setCell ⟨g,o,none⟩ u) (some g) :=
  ⟨h.os,h.tape,h.output,by simp [World.setCell];exact h.size,fun i hi hn=>by rw [Below.heap_setCell w' ⟨g,o,none⟩ u i (fun e=>hn (by rw [e]))];exact h.block i hi⟩
set_option maxRecDepth 100000 in
set_option maxHeartbeats 1000000 in
theorem teller1_any (c:Ch) (v x:Int) (g1 g2:Nat) (v2:Value) (lo:Nat) (w:World) (h:OInts w lo v2 c.words) (c1:w.cell? ⟨g1,0,none⟩=some v2) (c2:w.cell? ⟨g2,0,none⟩=some (.int .i64 v)) (hm:c.words.length≤1099511627776) :
    Calls Try.prog 76 #[.int .i64 x,.pointer (some ⟨g1,0,none⟩),.pointer (some ⟨g2,0,none⟩)] w fun r w'=>r=.returned (.bool (tellB c v x))∧OInts w' lo v2 (tellC c v x).words∧w.grownBy w' v2.ownBlock:=by
  have l1:=World.block_lt_of_cell? w _ c1
  have l2:=World.block_lt_of_cell? w _ c2
  simp only at l1 l2
  by_cases hh:hasW c v=true
  · obtain ⟨a1,a2⟩:=hasW_iff.1 hh
    obtain ⟨i,rfl⟩:∃ i:Nat,v=(i:Int)+1:=⟨(v - 1).toNat,by omega⟩
    have hi:i<c.words.length:=by omega
    obtain ⟨g,cap,rfl,hlo,hlt,hcell,hfr⟩:=h.open1 hi
    have e:wordAt c ((i:Int)+1)=c.words.getD i 0:=by simp [wordAt]
    have HE:=Lib.hid e
    have HO:=Lib.hid h
    clear e h
    generalize c.words.getD i 0=y at hcell HE
    have hi0:(0:Int)≤(i:Int):=by omega
    have hi1:(i:Int)<(c.words.length:Int):=by omega
    go_enter Try.func76,Try.ntmps76
    go_wp2_with fail
    refine (isWaiter_any c _ _ cap _).mono ?_
    rintro _ w1 ⟨rfl,hb1⟩
    have d1:=(hb1.cell (p:=⟨g1,0,none⟩) l1).trans c1
    have d2:=(hb1.cell (p:=⟨g2,0,none⟩) l2).trans c2
    have d3:=(hb1.cell (p:=⟨g,i,none⟩) hlt).trans hcell
    have d4:=fun o=>(hb1.frozen (p:=⟨g,o,none⟩) hlt).trans (hfr o)
    have o1:=own_below HO.out hb1
    by_cases ht:tellB c ((i:Int)+1) x=true
    · have ht2:=ht
      unfold tellB at ht2
      rw [HE.out] at ht2
      simp [hh] at ht2
      obtain ⟨rfl,hin⟩:=ht2
      have HW:Hid ((tellC c ((i:Int)+1) x).words=c.words.set i x):=by unfold tellC;rw [if_pos ht];simp [Hid]
      have HT:=Lib.hid ht
      have hx:x=1∨x=2:=by simp [inB] at hin;omega
      have hx2:(x != 1 && x != 2)=false:=by rcases hx with rfl|rfl <;> rfl
      clear ht HE hin
      rcases hx with rfl|rfl
      all_goals go_wp2
      all_goals go_ret
      all_goals exact ⟨ret_bool (by rw [HT.out]),by rw [HW.out];exact OInts.set o1 hi _,gr_set hb1 _ _⟩
    · have e1:tellB c ((i:Int)+1) x=false:=by simpa using ht
      have HT:=Lib.hid e1
      have HW:=Lib.hid (tellC_no e1)
      unfold tellB at e1
      rw [HE.out] at e1
      simp [hh] at e1
      clear HE ht
      by_cases hy:y=0
      · subst hy
        have hin:=e1 rfl
        have hx1:(x != 1)=true:=by simp [inB] at hin;simp;omega
        have hx2:(x != 2)=true:=by simp [inB] at hin;simp;omega
        clear e1 hin
        go_wp2
        go_ret
        exact ⟨ret_bool (by rw [HT.out]),by rw [HW.out];exact o1,gr_of_below hb1⟩
      · have hy2:(y != 0)=true:=by simpa using hy
        clear e1 hy
        go_wp2
        go_ret
        exact ⟨ret_bool (by rw [HT.out]),by rw [HW.out];exact o1,gr_of_below hb1⟩
  · have e1:=tellB_no1 (x:=x) (by simpa using hh)
    have HT:=Lib.hid e1
    have HW:=Lib.hid (tellC_no e1)
    clear e1
    have HO:=Lib.hid h
    obtain ⟨a2,q2,rfl,_⟩:=h.seg
    clear h
    go_enter Try.func76,Try.ntmps76
    go_wp2_with fail
    refine (isWaiter_any c _ _ q2 _).mono ?_
    rintro _ w1 ⟨rfl,hb1⟩
    have o1:=own_below HO.out hb1
    go_wp2
    go_ret
    exact ⟨ret_bool (by rw [HT.out]),by rw [HW.out];exact o1,gr_of_below hb1⟩
/- What is answered to a telling and to a waiter. -/
def told (c:Ch) (v x:Int):Ch:=if chanOk c then tellC c v x else Ch.zero
def toldB (c:Ch) (v x:Int):Bool:=chanOk c && tellB c v x
def waitC (c:Ch):Ch:=if chanOk c then (if 80≤c.words.length then c else { c with words:=c.words ++ [0] }) else Ch.zero
def waitN (c:Ch):Int:=if chanOk c then (if 80≤c.words.length then 0 else c.words.length+1) else 0
theorem told_no {c:Ch} {v x:Int} (h:chanOk c=false):told c v x=Ch.zero∧toldB c v x=false:=by simp [told,toldB,h]
theorem told_yes {c:Ch} {v x:Int} (h:chanOk c=true):told c v x=tellC c v x∧toldB c v x=tellB c v x:=by simp [told,toldB,h]
theorem tellC_cells (c:Ch) (v x:Int):(tellC c v x).cells=c.cells∧(tellC c v x).cap=c.cap∧(tellC c v x).sent=c.sent∧(tellC c v x).got=c.got∧(tellC c v x).fin=c.fin:=by unfold tellC;split <;> simp
theorem tellC_len (c:Ch) (v x:Int):(tellC c v x).words.length=c.words.length:=by unfold tellC;split <;> simp
end Go.Proofs.Ytikhaaccgoiaeaa
set_option linter.unusedSimpArgs false
set_option linter.unusedVariables false
namespace Go.Proofs.Ytikhaaccgoiaeaa
open Go.RowKit
theorem tell_keeps {c:Ch} {v x:Int} (h:tellB c v x=true):(tellC c v x).cells=c.cells∧(tellC c v x).words=c.words.set (v - 1).toNat x:=by
  unfold tellC
  rw [if_pos h]
  exact ⟨rfl,rfl⟩
theorem tell_at {c:Ch} {v x:Int} (h:tellB c v x=true):wordAt (tellC c v x) v=x:=by
  have t:=h
  unfold tellB at t
  cases e:hasW c v
  · simp [e] at t
  · obtain ⟨h1,h2⟩:=hasW_iff.1 e
    unfold wordAt
    rw [(tell_keeps h).2]
    simp only [List.getD_eq_getElem?_getD]
    rw [List.getElem?_set_self (by omega)]
    rfl
theorem tell_has (c:Ch) (v x u:Int):hasW (tellC c v x) u=hasW c u:=by
  unfold hasW
  rw [tellC_len]
theorem all_set {l:List Int} {i:Nat} {x:Int} (h:l.all (fun x=>inB x 0 2)=true) (hx:inB x 0 2=true):(l.set i x).all (fun x=>inB x 0 2)=true:=by
  rw [List.all_eq_true] at h ⊢
  intro y hy
  rcases List.mem_or_eq_of_mem_set hy with hy|rfl
  · exact h y hy
  · exact hx
theorem told_ok {c:Ch} {v x:Int} (h:chanOk c=true) (t:tellB c v x=true):chanOk (tellC c v x)=true:=by
  have hx:inB x 0 2=true:=by
    unfold tellB at t
    simp [inB] at t ⊢
    omega
  unfold chanOk at h ⊢
  simp only [Bool.and_eq_true] at h ⊢
  refine ⟨?_,?_,?_⟩
  · have:=h.1
    unfold chanHead at this ⊢
    rw [(tellC_cells c v x).1,(tellC_cells c v x).2.1,(tellC_cells c v x).2.2.1,(tellC_cells c v x).2.2.2.1,(tellC_cells c v x).2.2.2.2,tellC_len]
    exact this
  · rw [tellC_len,(tellC_cells c v x).1]
    exact h.2.1
  · rw [(tell_keeps t).2]
    exact all_set h.2.2 hx
theorem told_word {c:Ch} {v x:Int} (h:toldB c v x=true):wordOf (told c v x) v=x:=by
  unfold toldB at h
  simp only [Bool.and_eq_true] at h
  rw [(told_yes h.1).1]
  unfold wordOf
  have e:hasW c v=true:=by
    have t:=h.2
    unfold tellB at t
    cases e:hasW c v
    · simp [e] at t
    · rfl
  rw [told_ok h.1 h.2,tell_has,e]
  exact tell_at h.2
theorem cellFits_more {m:Nat} {x:C3} (h:cellFits m x=true):cellFits (m+1) x=true:=by
  unfold cellFits at h ⊢
  simp only [Bool.and_eq_true,decide_eq_true_eq] at h ⊢
  exact ⟨h.1,by have:=h.2;omega⟩
theorem wait_facts {c:Ch} (h:waitN c≠0):wordOf (waitC c) (waitN c)=0∧toldB (waitC c) (waitN c) 2=true∧toldB (told (waitC c) (waitN c) 2) (waitN c) 1=false∧wordOf (told (told (waitC c) (waitN c) 2) (waitN c) 1) (waitN c)=2:=by
  have ok:chanOk c=true:=by
    cases e:chanOk c
    · exact absurd (by simp [waitN,e]) h
    · rfl
  have lt:¬ 80≤c.words.length:=fun e=>h (by simp [waitN,ok,e])
  have eN:waitN c=(c.words.length:Int)+1:=by simp [waitN,ok,lt]
  have eC:waitC c={ c with words:=c.words ++ [0] }:=by simp [waitC,ok,lt]
  have okU:chanOk (waitC c)=true:=by
    rw [eC]
    unfold chanOk at ok ⊢
    simp only [Bool.and_eq_true] at ok ⊢
    refine ⟨?_,?_,?_⟩
    · have:=ok.1
      unfold chanHead at this ⊢
      simp only [Bool.and_eq_true,decide_eq_true_eq,List.length_append,List.length_singleton] at this ⊢
      exact ⟨this.1,this.2.1,this.2.2.1,this.2.2.2.1,this.2.2.2.2.1,by omega⟩
    · have:=ok.2.1
      rw [List.all_eq_true] at this ⊢
      intro y hy
      simp only [List.length_append,List.length_singleton]
      exact cellFits_more (this y hy)
    · simp only [List.all_append,ok.2.2]
      rfl
  have hw:hasW (waitC c) (waitN c)=true:=by
    rw [hasW_iff,eC,eN]
    simp only [List.length_append,List.length_singleton]
    omega
  have w0:wordAt (waitC c) (waitN c)=0:=by
    rw [eC,eN]
    unfold wordAt
    have:((c.words.length:Int)+1 - 1).toNat=c.words.length:=by omega
    rw [this]
    simp
  have t2:tellB (waitC c) (waitN c) 2=true:=by
    unfold tellB
    rw [hw,w0]
    rfl
  have k2:toldB (waitC c) (waitN c) 2=true:=by
    unfold toldB
    rw [okU,t2]
    rfl
  have ok2:=told_ok okU t2
  have a2:=tell_at t2
  have e2:=(told_yes (v:=waitN c) (x:=2) okU).1
  have t1:tellB (tellC (waitC c) (waitN c) 2) (waitN c) 1=false:=by
    unfold tellB
    rw [a2]
    simp
  have k1:toldB (told (waitC c) (waitN c) 2) (waitN c) 1=false:=by
    rw [e2]
    unfold toldB
    rw [t1]
    simp
  refine ⟨?_,k2,k1,?_⟩
  · unfold wordOf
    rw [okU,hw,w0]
    rfl
  · have k:=told_word k2
    rw [e2] at k ⊢
    rw [(told_yes ok2).1,tellC_no t1]
    exact k
end Go.Proofs.Ytikhaaccgoiaeaa
