/-
  A world in a box of the call's own: loading and storing its channel, its hands; no condition but where it lies.
-/
import Derived.Test.YtffhjmepfojhnaaGreatP21
import Derived.Test.YtffhjmepfojhnaaGreatP05
import Derived.RangeFuncNested
import Derived.RangeFuncBound
import Derived.RangeFuncCalls
import Derived.RangeFuncLeaves
import Derived.RangeFuncBox
import Derived.Shelf.Abstract
import Derived.Shelf.RegionOpen
import Derived.WalkKit
import Derived.OwnWalkIn
import Derived.TacticsInMore
import Derived.LoopNIn
import Derived.LoopIn
import Derived.Maps.AppendAt
import Derived.Test.YtffhjmepfojhnaaGreatP14
import Derived.Test.YtffhjmepfojhnaaGreatP18
import Derived.Test.YtffhjmepfojhnaaGreatP20
import Derived.Test.YtffhjmepfojhnaaGreatP16
import Derived.Deep.RegionHeld3
import Derived.Deep.DeepCutAuto
import Derived.Test.YtffhjmepfojhnaaGreatRows
import Derived.Test.YtffhjmepfojhnaaGreatP01
import Derived.ProofKit
import Derived.OpenShut
import Derived.ShutString
import Derived.ChangeOld
import Derived.Deep.Slices
import Derived.Deep.Fields
set_option maxRecDepth 100000
set_option maxHeartbeats 8000000
set_option linter.unusedSimpArgs false
set_option linter.unusedVariables false
namespace Go.Proofs.YtffhjmepfojhnaaGreat
section
open Go.RowKit
theorem xI {w:World} {B:Nat} {x:Wo} {v1 v2 v3 v4:Value} (z:hp w B=some (.cells (dP x v1 v2 v3 v4) 35)):(yo (.pointer (some ⟨B,0,none⟩))).run Tryz.prog w=.ok (.agg (af x.ch v1 v2)) w:=by
 have h0:w.cell? ⟨B,0,none⟩=some (.int .i64 x.ch.cap):=(bO z).1 0
 have h1:w.cell? ⟨B,1,none⟩=some (.int .i64 x.ch.sent):=(bO z).1 1
 have h2:w.cell? ⟨B,2,none⟩=some (.int .i64 x.ch.got):=(bO z).1 2
 have h3:w.cell? ⟨B,3,none⟩=some (.int .i64 x.ch.fin):=(bO z).1 3
 have h4:w.cell? ⟨B,4,none⟩=some v1:=(bO z).1 4
 have h5:w.cell? ⟨B,5,none⟩=some v2:=(bO z).1 5
 unfold yo
 simp [af,go_sem, *]
attribute [local simp] aI
attribute [local go_sem ↓] aH aU aM bz aN bB aA aK ax aB
attribute [local go_sem ↓] kR
attribute [local go_sem] j5
end
section
open Go.RowKit Go.Shelf
attribute [local go_sem] Oper.semAt_some
attribute [local simp] aI
attribute [local go_sem ↓] aH aU aM bz aN bB aA aK ax aB
def qx (n B:Nat) (W W':World):Prop:=Below n W W'∧hp W' B=hp W B
theorem oV {n B:Nat} {X Y Z:World} (h:qx n B X Y) (k:qx n B Y Z):qx n B X Z:=⟨h.1.trans k.1,k.2.trans h.2⟩
theorem abide {J:List Int→World→Prop} {B:Nat} {t:List Int} {X Y:World} (hJ:AbidesFrom B J) (h:J t X) (hb:Below X.heap.size X Y):J t Y:=hJ t X Y none h ⟨hb.os,hb.tape,hb.output,hb.size,fun k hk _=>hb.block k hk⟩ (fun _ e=>nomatch e)
theorem Mj {f:Ending} {A B:Prop} (h:(f=.returned (.bool true)∧A)∨(f=.returned (.bool false)∧B)):∃ b:Bool,f=.returned (.bool b)∧Hid ((b=true∧A)∨(b=false∧B)):=by
 rcases h with ⟨rfl,h⟩|⟨rfl,h⟩
 ·exact ⟨true,rfl,.inl ⟨rfl,h⟩⟩
 ·exact ⟨false,rfl,.inr ⟨rfl,h⟩⟩
theorem Dr (n:Nat) (hn:1≤n) (l Bn Bw n0:Nat) (x:Wo) (a b d e:Option Addr) (p q r s:Nat) (J Jx:List Int→World→Prop) (W:World) (m:iZ x) (hlen:1≤x.hands.length)
  (hY:∀ pre y X,J pre X→pre.length<x.hands.length→YieldAt Fence.wide (n - 1) Tryz.prog l #[.int .i64 y] X fun f X'=>(f=.returned (.bool true)∧J (pre ++ [y]) X'∧qx n0 Bn X X')∨(f=.returned (.bool false)∧Jx (pre ++ [y]) X'))
  (hJ:AbidesFrom W.heap.size J) (MS:hp W Bn=some (.cells #[.pointer (some ⟨Bw,0,none⟩)] 82)) (hBw:hp W Bw=some (.cells (dP x (.slice a x.ch.cells.length p) (.slice b x.ch.words.length q) (.slice d x.hands.length r) (.slice e x.deals.length s)) 35)) (hlo:Bw<n0) (hn0:n0≤W.heap.size) (S:gm W n0 x a b d e) (N:iB x a b d e p q r s) (h0:J [] W) :
  CallsIn Fence.wide n Tryz.prog 106 #[.func (.yield l) #[] #[],.pointer (some ⟨Bn,0,none⟩)] W fun f X=>(∃ v,f=.returned v)∧((∃ ys,ys=eQ x x.hands.length∧J ys X)∨(∃ pre,(∃ k,k≤x.hands.length∧pre=eQ x k)∧Jx pre X)):=by
 obtain ⟨s1,s2,s3,s4⟩:=S
 obtain ⟨n1,n2,n3,n4⟩:=N
 obtain ⟨b3,o3,rfl,hb3,hc3⟩:∃ b o,d=some ⟨b,o,none⟩∧b<n0∧Hid (∀ i j,i<x.hands.length→j<14→W.cell? ⟨b,o+i*14+j,none⟩=some (gB x.hands i j)):=by
  rcases s3 with h|h
  ·omega
  ·exact h
 have QX:Bn<W.heap.size:=(bO MS).2.2
 have Fv:∀ (i:Nat) (X:World),i<x.hands.length→Below n0 W X→(oH (.pointer (some ⟨b3,o3+i*14,none⟩))).run Tryz.prog X=.ok (.agg (aa (dn x i))) X:=fun i X hi hX=>lV _ fun j hj=>by rw [show (aa (dn x i)).getD j (.int .i64 0)=gB x.hands i j by simp [gB,dn],← hc3.out i j hi hj];exact World.cell?_of_block (hX.block b3 hb3)
 refine callsIn_of_wp Tryz.func106 rfl trivial ?_ rfl
 simp only [Tryz.ntmps106,List.size_toArray,List.length_cons,List.length_nil,Nat.reduceAdd,Nat.reduceSub,Array.replicate_succ,Array.replicate_zero,List.push_toArray,List.append_toArray,List.nil_append,List.cons_append]
 have QY:W.cell? ⟨Bn,0,none⟩=some (.pointer (some ⟨Bw,0,none⟩)):=(bO MS).1 0
 have di:W.cell? ⟨Bw,6,none⟩=some (.slice (some ⟨b3,o3,none⟩) x.hands.length r):=(bO hBw).1 6
 gi_wp2
 gi_loopw [10] (fun i wr=>∃ k:Nat,k≤x.hands.length∧i=.int .i64 k∧J (eQ x k) wr∧qx n0 Bn W wr∧W.heap.size≤wr.heap.size)
  (fun i _=>x.hands.length - (intOf i).toNat)
 case atStart=>exact ⟨0,Nat.zero_le _,rfl,h0,⟨Below.refl _ _,rfl⟩,Nat.le_refl _⟩
 case round =>
  obtain ⟨k,hk,rfl,hJs,Mk,hsz⟩:=hrel
  by_cases hlt:k<x.hands.length
  ·obtain ⟨h0,hh⟩:∃ h0,Hid (h0=dn x k):=⟨_,rfl⟩
   have hL:=Fv k wr hlt Mk.1
   rw [← hh.out] at hL
   have hi0:(0:Int)≤(k:Int):=by omega
   have hi1:(k:Int)<(x.hands.length:Int):=by omega
   have NC:wr.cell? ⟨Bn,0,none⟩=some (.pointer (some ⟨Bw,0,none⟩)):=(bO (Mk.2.trans MS)).1 0
   have Q6:=(Mk.1.block Bw hlo).trans hBw
   have hwk:wrap64 ((k:Int)+1)=((k+1:Nat):Int):=by have:=m.2.2.1;unfold wrap64;omega
   have hmx:Tryz.prog.follows .mixedOrders=true:=by kernel_rfl
   have PE:Bn<wr.heap.size:=by omega
   gi_wp2
   generalize hw2:World.alloc wr _=w2
   have CO:hp w2.drew wr.heap.size=some (.cells (aa h0) 49):=by rw [← hw2];exact heap_alloc_new _ _
   have hb2:Below wr.heap.size wr w2:=by rw [← hw2];exact bE _ _
   have hs2:w2.heap.size=wr.heap.size+1:=by rw [← hw2];exact AP _ _
   clear hw2
   have QZ:w2.drew.cell? ⟨wr.heap.size,0,none⟩=some (.int .i64 h0.pos):=(bO CO).1 0
   have Ra:w2.drew.cell? ⟨Bn,0,none⟩=some (.pointer (some ⟨Bw,0,none⟩)):=(hb2.cell (p:=⟨Bn,0,none⟩) PE).trans NC
   have Pj:=xI (w:=w2.drew) ((hb2.block Bw tO).trans Q6)
   have hbd:Below wr.heap.size wr w2.drew:=hb2.drew
   have Oo:qx n0 Bn wr w2.drew:=⟨hbd.mono tO,hb2.block Bn PE⟩
   obtain ⟨tb,htb⟩:∃ tb,Hid (tb=gI x.ch h0):=⟨_,rfl⟩
   have Ml:iU x k=tb:=by unfold iU;rw [← hh.out,htb.out];rfl
   have HST:=Lib.hid (oP x.ch h0 a b p q w2.drew ((s1.below (Mk.1.trans Oo.1)).more (by show n0≤w2.heap.size;omega)) n1 ((s2.below (Mk.1.trans Oo.1)).more (by show n0≤w2.heap.size;omega)) n2 (by have:=m.1;unfold maxLen;omega) (by have:=m.2.1;unfold maxLen;omega))
   rw [← htb.out] at HST
   have HN:Hid (∀ w3:World,Below w2.drew.heap.size w2.drew w3→Below wr.heap.size wr w3∧qx n0 Bn wr w3∧J (eQ x k) w3∧wr.heap.size≤w3.heap.size):=fun w3 uQ=>by
    have hbe:Below wr.heap.size wr w3:=hbd.trans (uQ.mono (by show wr.heap.size≤w2.heap.size;omega))
    exact ⟨hbe,oV Oo ⟨uQ.mono (by show n0≤w2.heap.size;omega),uQ.block Bn (by show Bn<w2.heap.size;omega)⟩,abide hJ hJs hbe,hbe.size⟩
   clear hbd Oo htb hL NC
   cases tb with
   | false =>
    first|gi_region_with_o (first|(refine ⟨trivial,?_⟩;gi_at_call 107;refine (callsIn_wide.2 HST.out).mono ?_;rintro _ w3 ⟨rfl,uQ⟩)|(refine ⟨fun _ h=>(by cases h),?_⟩))|fail
    all_goals
     obtain ⟨hbe,Pk,hJ3,hs3⟩:=HN.out _ uQ
     clear Pj HST uQ HN
     gi_wp2
     go_roundw
     all_goals first|exact ⟨k+1,by omega,by rw [hwk],by rw [vO Ml];exact hJ3,oV Mk Pk,by omega⟩|(rw [hwk];simp [intOf];omega)
   | true =>
    gi_region_with_o (first|(refine ⟨trivial,?_⟩;gi_at_call 107;refine (callsIn_wide.2 HST.out).mono ?_;rintro _ w3 ⟨rfl,uQ⟩;obtain ⟨fn,tmps,assign,body,hy,hR⟩:=hY (eQ x k) k w3 (HN.out _ uQ).2.2.1 (by have:=ky x k;omega))|(refine hR.mono ?_;rintro f W3 hD;obtain ⟨bv,rfl,hE⟩:=Mj hD))
    all_goals
     obtain ⟨hbe,Pk,hJ3,hs3⟩:=HN.out _ uQ
     clear Pj HST uQ HN
     rcases hE.out with ⟨rfl,Q7,hk4⟩|⟨rfl,Pm⟩
     ·have hs4:=hk4.1.size
      gi_wp2
      go_roundw
      all_goals first|exact ⟨k+1,by omega,by rw [hwk],by rw [o9 Ml];exact Q7,oV (oV Mk Pk) hk4,by omega⟩|(rw [hwk];simp [intOf];omega)
     ·gi_wp2
      refine bodyPost_ret (results_none rfl _ _ _) rfl ?_
      exact ⟨⟨_,rfl⟩,.inr ⟨_,⟨k+1,by omega,(o9 Ml).symm⟩,Pm⟩⟩
  ·obtain rfl:k=x.hands.length:=by omega
   gi_wp2
   go_end0
   exact ⟨⟨_,rfl⟩,.inl ⟨_,rfl,hJs⟩⟩
end
section
open Go.RowKit Go.Shelf
attribute [local go_sem] Oper.semAt_some
theorem Mm {F:Fence} {n:Nat} {P:Program} {f:FuncId} {args:Array Value} {W:World} {Q:Ending→World→Prop} (w:World) (h:Below w.heap.size w W) (k:Below w.heap.size w W→CallsIn F n P f args W Q):CallsIn F n P f args W Q:=k h
theorem AQ (B:Nat) (w:World):Calls Tryz.prog 56 #[.pointer (some ⟨B,0,none⟩)] w fun r w'=>r=.returned (.func (.func 106) #[] #[.pointer (some ⟨w.heap.size,0,none⟩)])∧w'=w.alloc (.cells #[.pointer (some ⟨B,0,none⟩)] 82):=by
 go_enter Tryz.func56,Tryz.ntmps56
 go_wp2
 go_ret
 exact ⟨rfl,rfl⟩
theorem AR (w:World) (o1 o2 o3:Obj):hp (((w.alloc o1).alloc o2).alloc o3) (w.heap.size+1+1)=some o3:=by
 have h:=World.alloc_heap_new ((w.alloc o1).alloc o2) o3
 rwa [World.size_alloc,World.size_alloc] at h
theorem Jc (w:World) (o1 o2 o3:Obj):hp (((w.alloc o1).alloc o2).alloc o3) w.heap.size=some o1:=by
 have h:=World.alloc_heap_new w o1
 exact ((Below.heap_alloc _ _ _ (by simp;omega)).trans (Below.heap_alloc _ _ _ (by simp))).trans h
theorem gm.atP {w W:World} {x:Wo} {a b d e:Option Addr} (h:gm w w.heap.size x a b d e) (hb:Below w.heap.size w W):gm W W.heap.size x a b d e:=⟨(h.1.below hb).more hb.size,(h.2.1.below hb).more hb.size,(h.2.2.1.below hb).more hb.size,(h.2.2.2.below hb).more hb.size⟩
theorem xJ (n:Nat) (hn:1≤n) (Bn Bw n0:Nat) (x:Wo) (a b d e:Option Addr) (p q r s:Nat) (w:World) (m:iZ x) (hlen:1≤x.hands.length) (MS:hp w Bn=some (.cells #[.pointer (some ⟨Bw,0,none⟩)] 82)) (hBw:hp w Bw=some (.cells (dP x (.slice a x.ch.cells.length p) (.slice b x.ch.words.length q) (.slice d x.hands.length r) (.slice e x.deals.length s)) 35)) (hlo:Bw<n0) (hn0:n0≤w.heap.size) (S:gm w n0 x a b d e) (N:iB x a b d e p q r s) :
  SeqStopsK Fence.wide n Tryz.prog 106 #[.pointer (some ⟨Bn,0,none⟩)] (fun y:Int=>#[Value.int .i64 y]) (qx n0 Bn) (fun ys=>ys=eQ x x.hands.length) (fun pre=>∃ k,k≤x.hands.length∧pre=eQ x k) x.hands.length w:=fun l J Jx W hW hJ _ hY h0 =>
 Dr n hn l Bn Bw n0 x a b d e p q r s J Jx W m hlen hY hJ ((hW.block Bn (bO MS).2.2).trans MS) ((hW.block Bw tO).trans hBw) hlo (Nat.le_trans hn0 hW.size) ⟨S.1.below (hW.mono hn0),S.2.1.below (hW.mono hn0),S.2.2.1.below (hW.mono hn0),S.2.2.2.below (hW.mono hn0)⟩ N h0
theorem uR (x:Wo) (a b d e:Option Addr) (p q r s:Nat) (w:World) (h:gm w w.heap.size x a b d e) (z:iB x a b d e p q r s) (m:iZ x) (hk:dU x=true) :
  Calls Tryz.prog 16 #[zY x a b d e p q r s] w fun r' w'=>(∃ v,r'=.returned v∧ai w' w.heap.size v (eQ x x.hands.length))∧Below w.heap.size w w':=by
 obtain ⟨i0,hi,hz0,hz1,hz2⟩:=info_parts jI
 refine (callsIn_wide (n:=3)).1 ?_
 refine callsIn_of_wp_marks Tryz.func16 rfl trivial ?_ rfl
 simp only [Tryz.ntmps16,List.size_toArray,List.length_cons,List.length_nil,Nat.reduceAdd,Nat.reduceSub,Array.replicate_succ,Array.replicate_zero,List.push_toArray,List.append_toArray,List.nil_append,List.cons_append]
 gi_wp2_with (first|(refine ⟨trivial,?_⟩;gi_at_call 49;refine Mm w zB fun bb=>?_;refine (callsIn_wide.2 (ma x a b d e p q r s _ (h.atP bb) m)).mono ?_;rintro _ w1 ⟨rfl,hb1⟩;rw [hk];have hB1:Below w.heap.size w w1:=bT bb hb1;have bG:=(hb1.block w.heap.size (by simp;omega)).trans (Jc w _ _ _);have Pn:Boxed w1 (w.heap.size+1+1) 29 (.slice (some ⟨w.heap.size+1,0,none⟩) 0 0):=(hb1.block (w.heap.size+1+1) (by simp)).trans (AR w _ _ _);have o0:w1.ownsRow (w.heap.size+1) 2 1 (.slice (some ⟨w.heap.size+1,0,none⟩) 0 0) 0 []:=own_below (own_below (fJ _ _ _ _ (w.heap.size+1) (by simp) (by simp)) (bE _ _)) hb1;have hs1:=hb1.size;(simp at hs1);clear hb1 bb)|(refine ⟨trivial,?_⟩;gi_at_call 56;refine (callsIn_wide.2 (AQ w.heap.size _)).mono ?_;rintro _ w2 ⟨rfl,hw2⟩))
 clear hw2
 have hlen:1≤x.hands.length:=by
  simp [dU,gN] at hk
  omega
 have hBa:Below w.heap.size w (w1.alloc (.cells #[.pointer (some ⟨w.heap.size,0,none⟩)] 82)):=bA hB1
 have bN:=Boxed.new w1 82 (.pointer (some ⟨w.heap.size,0,none⟩))
 have Po:=(Below.heap_alloc w1 (.cells #[.pointer (some ⟨w.heap.size,0,none⟩)] 82) w.heap.size tO).trans bG
 have S2:gm (w1.alloc (.cells #[.pointer (some ⟨w.heap.size,0,none⟩)] 82)) (w.heap.size+1) x a b d e:=⟨(h.1.below hBa).more tO,(h.2.1.below hBa).more tO,(h.2.2.1.below hBa).more tO,(h.2.2.2.below hBa).more tO⟩
 refine wpIn_rangeFunc_ownG rfl tO (gf:=106) (lb:=#[.pointer (some ⟨w1.heap.size,0,none⟩)]) rfl trivial (enters_of Tryz.func106 (by kernel_rfl) rfl)
  (xJ (3 - 1) tO w1.heap.size w.heap.size (w.heap.size+1) x a b d e p q r s _ m hlen bN Po tO (by simp;omega) S2 z) oV (fun W l o o' hl hW hc hw=>⟨belowK_b (w:=(w1.alloc (.cells #[.pointer (some ⟨w.heap.size,0,none⟩)] 82))) (by simp;omega) W l o o' hl hW hc hw,World.putObj_heap_other (by simp at hl;omega)⟩) (Below.refl _ _) (fun _=>rfl)
  (fun pre W=>(∃ v,Boxed W (w.heap.size+1+1) 29 v∧W.ownsRow (w.heap.size+1) 2 1 v pre.length (pre.map (Value.int .i64))∧True)∧Boxed W w1.heap.size 82 (.pointer (some ⟨w.heap.size,0,none⟩))∧Below w.heap.size w W)
  (fun _ _ _=>False)
  (OwnFrom.and (Own.from (holdsRow_own (w.heap.size+1) (w.heap.size+1+1) 29 2 1 (fun pre:List Int=>pre.length) (fun pre=>pre.map (Value.int .i64)) (fun _ _=>True)) _) (OwnFrom.and (Own.from (boxed_own _ _ _) _) (ownFrom_below (Nat.le_refl _) (by simp;omega))))
  (fun _ _ _ _ _ hs _ _=>hs)
  ⟨⟨_,Pn.alloc _,own_below o0 (bE _ _),trivial⟩,bN,hBa⟩
  (fun y=>{ tmps:=#[.agg #[.int .i64 x.ch.cap,.int .i64 x.ch.sent,.int .i64 x.ch.got,.int .i64 x.ch.fin,.slice a x.ch.cells.length p,.slice b x.ch.words.length q,.slice d x.hands.length r,.slice e x.deals.length s,.int .i64 x.now],.pointer (some ⟨w.heap.size,0,none⟩),.slice none 0 0,.pointer (some ⟨w.heap.size+1+1,0,none⟩),.int .i64 y,.slice (some ⟨w.heap.size+1,0,none⟩) 0 0,.agg #[.int .i64 x.ch.cap,.int .i64 x.ch.sent,.int .i64 x.ch.got,.int .i64 x.ch.fin,.slice a x.ch.cells.length p,.slice b x.ch.words.length q,.slice d x.hands.length r,.slice e x.deals.length s,.int .i64 x.now],.bool true,.bool false,undef,.func (.func 106) #[] #[.pointer (some ⟨w1.heap.size,0,none⟩)],.int .i64 y,undef,undef,undef,undef,undef],defers:=[] }) ?assign ?body ?done ?stop
 case assign =>
  intro l y W K hK
  gi_wp2
  exact hK
 case body =>
  rintro l pre y W ⟨⟨v,hv,hrow,_⟩,hbn,hB⟩ hlt
  have hc:=hv.cell
  have hpl:=m.2.2.1
  have hbl:=hbn.lt
  have b1:pre.length+1≤maxLen:=by unfold maxLen;omega
  have b2:(pre.length+1)*8≤140737488355328:=by omega
  have b3:w.heap.size+1≤(W.alloc (.cells #[.int .i64 y] 2)).heap.size:=by rw [World.size_alloc];omega
  gi_wp2_with (gi_at_builtin;refine wpListIn_append_own _ rfl _ _ 29 rfl (w.heap.size+1) 2 i0 (.int .i64 0) 1 8 Tryz.underlying29 hi hz0 hz1 hz2 rfl (by decide) _ _ _ rfl (hrow.alloc _) ⟨W.heap.size,0,none⟩ 1 1 [.int .i64 y] rfl rfl (cell_one_new _ _ _) (by simp [Value.oneCell']) b1 b2 b3 ?_)
  intro v' w3 hown' hgrow _
  obtain ⟨g',cap',rfl⟩:=ownsRow_succ hown'
  obtain ⟨hv1,hv2,hr2,hk2,hb2⟩:=hv.appended (by decide) hrow tO tO hown' hgrow
  have hc1:=hv1.cell
  have hf1:=hv1.frozen
  have MR:=((hbn.alloc _).kept hgrow (hbn.not_row (by decide) hrow)).kept (grownBy_setCell' w3 (w.heap.size+1+1) (.slice (some ⟨g',0,none⟩) (pre.length+1) cap')) (by simp;omega)
  gi_wp2
  exact ⟨hk2.from _,⟨hb2,Eq.trans MR (Eq.symm hbn)⟩,⟨_,hv2,by simpa using hr2,trivial⟩,MR,hB.trans (hb2.mono tO)⟩
 case done =>
  rintro D ys W hD rfl ⟨⟨v,hv,hrow,_⟩,hbn,hB⟩ hK
  have hc:=hv.cell
  gi_wp2
  refine ⟨by simp,.inl ⟨_,_,rfl,run_takeDeferred hK,?_⟩⟩
  exact ⟨_,results_tmp rfl _ _ _,⟨v,rfl,ay (ownsRow_putObj hrow _ hK rfl) tO⟩,hB.trans (belowK_b (w:=w) (Nat.le_refl _) W D _ _ (by simp at hD;omega) hK rfl rfl)⟩
 case stop =>
  rintro D c pre W _ _ h _
  exact h.elim
theorem uS (x:Wo) (a b d e:Option Addr) (p q r s:Nat) (w:World) (h:gm w w.heap.size x a b d e) (z:iB x a b d e p q r s) (m:iZ x) :
  Calls Tryz.prog 16 #[zY x a b d e p q r s] w fun r' w'=>(∃ v,r'=.returned v∧ai w' w.heap.size v (cB x))∧Below w.heap.size w w':=by
 cases hk:dU x with
 | true =>
  rw [show cB x=eQ x x.hands.length by simp [cB,hk]]
  exact uR x a b d e p q r s w h z m hk
 | false =>
  rw [show cB x=[] by simp [cB,hk]]
  have HW:=Lib.hid h
  clear h
  go_enter Tryz.func16,Tryz.ntmps16
  go_wp2_with fail
  refine au w zB fun bb=>?_
  refine (ma x a b d e p q r s _ (HW.out.atP bb) m).mono ?_
  rintro _ w1 ⟨rfl,hb1⟩
  rw [hk]
  have Pn:hp w1 (w.heap.size+1+1)=some (.cells #[.slice (some ⟨w.heap.size+1,0,none⟩) 0 0] 29):=(hb1.block (w.heap.size+1+1) (by simp)).trans (AR w _ _ _)
  have o0:ai w1 w.heap.size (.slice (some ⟨w.heap.size+1,0,none⟩) 0 0) []:=own_below (own_below (fJ _ _ _ _ (w.heap.size+1) (by simp) (by simp)) (bE _ _)) hb1
  have hB1:Below w.heap.size w w1:=bT bb hb1
  obtain ⟨Rb,Rc,Re⟩:=bO Pn
  clear bb hb1
  go_wp2
  go_ret
  exact ⟨⟨_,rfl,o0⟩,by exact zB⟩
end
section
open Go.RowKit
theorem New.segAt {w W:World} {lo n k:Nat} {x:Option Addr} {cap:Nat} {f:Nat→Nat→Value} (h:New w lo (.slice x n cap) n k f) (hb:Below w.heap.size w W):Seg W W.heap.size x n k f:=by
 obtain ⟨a,cap',e,hs⟩:=(h.below hb).seg
 simp at e
 obtain ⟨rfl,rfl⟩:=e
 exact hs
end
section
open Go.RowKit
attribute [local simp] aI
attribute [local go_sem ↓] IZ LF Ja Eo AO
theorem oW (x:Wo) (ans:List Int) (hy:iZ x→ans.length≤1048576) (a b d e:Option Addr) (p1 p2 p3 p4:Nat) (w:World) (h:gm w w.heap.size x a b d e) (m:x.ch.cells.length≤maxLen∧x.ch.words.length≤maxLen∧x.hands.length≤maxLen∧x.deals.length≤maxLen)
  (hs:iZ x→∀ (a b d e:Option Addr) (p1 p2 p3 p4:Nat) (w:World),gm w w.heap.size x a b d e→iB x a b d e p1 p2 p3 p4→Calls Tryz.prog 26 #[.agg (dP x (.slice a x.ch.cells.length p1) (.slice b x.ch.words.length p2) (.slice d x.hands.length p3) (.slice e x.deals.length p4))] w fun r' w'=>(∃ v,r'=.returned v∧ai w' w.heap.size v ans)∧Below w.heap.size w w')
  (hi:iZ x→∀ (a b d e:Option Addr) (p1 p2 p3 p4:Nat) (w:World),gm w w.heap.size x a b d e→iB x a b d e p1 p2 p3 p4→Calls Tryz.prog 16 #[.agg (dP x (.slice a x.ch.cells.length p1) (.slice b x.ch.words.length p2) (.slice d x.hands.length p3) (.slice e x.deals.length p4))] w fun r' w'=>(∃ v,r'=.returned v∧ai w' w.heap.size v ans)∧Below w.heap.size w w') :
  Calls Tryz.prog 6 #[.agg (dP x (.slice a x.ch.cells.length p1) (.slice b x.ch.words.length p2) (.slice d x.hands.length p3) (.slice e x.deals.length p4))] w fun r w'=>r=.returned (.bool true)∧Below w.heap.size w w':=by
 have H:=Lib.hid h
 have M:=Lib.hid m
 have HS:=Lib.hid hs
 have HI:=Lib.hid hi
 clear h m hs hi
 have hsum:=Jb x
 go_enter Tryz.func6,Tryz.ntmps6
 go_wp2_with fail
 refine (ni x a b d e p1 p2 p3 p4 1048576 _ tO tO M.out.1 M.out.2.1 M.out.2.2.1 M.out.2.2.2).mono ?_
 rintro _ w1 ⟨⟨z,rfl,hz⟩,ag⟩
 have hB1:Below w.heap.size w w1:=bT zB ag
 have PG:Below w.heap.size w w1:=bT zB ag
 have ak:=ag.size;(try (simp at ak));have zz:=hQ ag (b:=w.heap.size);(first|(simp [go_sem,bG,bV] at zz)|(simp [go_sem] at zz));(try clear di dC);(try clear bG);have bG:=zz;clear zz;(try clear bV);obtain ⟨di,dC,bV⟩:=bO bG
 clear ag
 by_cases hn:z<0
 ·go_wp2
  go_ret
  exact ⟨rfl,hB1⟩
 have m:=hz tO
 clear hz
 have my:=hy m
 clear hy
 replace HS:=Lib.hid (HS.out m)
 replace HI:=Lib.hid (HI.out m)
 go_wp2_with fail
 refine (iL x a b d e p1 p2 p3 p4 _ (((H.out.below zB).more tS)) m).mono ?_
 rintro _ w2 ⟨⟨g1,g2,g3,g4,rfl,G⟩,hbw2⟩
 have hB2:Below w.heap.size w w2:=bT zB hbw2
 have hC2:Below w1.heap.size w1 w2:=bT zB hbw2
 have aR:=hbw2.size;(try (simp at aR));have zz:=hQ hbw2 (b:=w.heap.size);(first|(simp [go_sem,bG,bV] at zz)|(simp [go_sem] at zz));(try clear di dC);(try clear bG);have bG:=zz;clear zz;(try clear bV);obtain ⟨di,dC,bV⟩:=bO bG
 clear hbw2
 go_wp2_with fail
 refine (HS.out _ _ _ _ _ _ _ _ _ ((G.below (Below.refl _ _) (Nat.le_refl _)).seg) (sV _ _ _ _ _ _ _ _ _)).mono ?_
 rintro _ w3 ⟨⟨vu,rfl,U0⟩,aC⟩
 have hB3:Below w.heap.size w w3:=bT zB aC
 have PH:Below w2.heap.size w2 w3:=bT zB aC
 have bM:=aC.size;(try (simp at bM));have zz:=hQ aC (b:=w.heap.size);(first|(simp [go_sem,bG,bV] at zz)|(simp [go_sem] at zz));(try clear di dC);(try clear bG);have bG:=zz;clear zz;(try clear bV);obtain ⟨di,dC,bV⟩:=bO bG
 clear aC
 obtain ⟨ua,uc,rfl,_⟩:=ai.seg U0
 have UL:=ai.new U0
 clear U0
 have lU:=New.lo' UL
 go_wp2_with fail
 refine (iL x a b d e p1 p2 p3 p4 _ (((H.out.below zB).more tS)) m).mono ?_
 rintro _ w4 ⟨⟨y1,y2,y3,y4,rfl,Y⟩,d9⟩
 have hB4:Below w.heap.size w w4:=bT zB d9
 have Pp:Below w3.heap.size w3 w4:=bT zB d9
 have gu:=d9.size;(try (simp at gu));have zz:=hQ d9 (b:=w.heap.size);(first|(simp [go_sem,bG,bV] at zz)|(simp [go_sem] at zz));(try clear di dC);(try clear bG);have bG:=zz;clear zz;(try clear bV);obtain ⟨di,dC,bV⟩:=bO bG
 clear d9
 replace UL:=UL.below Pp
 obtain ⟨X0,A0⟩:=Y.new
 clear Y
 go_upto_region 7 with fail
 generalize kr:World.alloc w4 _=w5
 have eB:hp w5 w4.heap.size=some (.cells (dP x (.slice (some ⟨y1,0,none⟩) x.ch.cells.length x.ch.cells.length) (.slice (some ⟨y2,0,none⟩) x.ch.words.length x.ch.words.length) (.slice (some ⟨y3,0,none⟩) x.hands.length x.hands.length) (.slice (some ⟨y4,0,none⟩) x.deals.length x.deals.length)) 35):=by rw [← kr];exact heap_alloc_new _ _
 have jA:Below w4.heap.size w4 w5:=by rw [← kr];exact bE _ _
 have gK:w5.heap.size=w4.heap.size+1:=by rw [← kr];exact AP _ _
 clear kr
 have LC:Below w.heap.size w w5:=bT hB4 jA
 obtain ⟨gW,gX,fH⟩:=bO eB
 replace UL:=UL.below jA
 replace X0:=X0.below jA
 replace bG:=fC bG jA
 clear di dC bV
 obtain ⟨di,dC,bV⟩:=bO bG
 go_wp2_with fail
 refine (HI.out _ _ _ _ _ _ _ _ _ (X0.segAt zB) (sV _ _ _ _ _ _ _ _ _)).mono ?_
 rintro _ w6 ⟨⟨vg,rfl,G0⟩,fZ⟩
 have Eh:Below w.heap.size w w6:=bT zB fZ
 have MU:Below w5.heap.size w5 w6:=bT zB fZ
 have rY:=fZ.size;(try (simp at rY));have zz:=hQ fZ (b:=w.heap.size);(first|(simp [go_sem,bG,bV] at zz)|(simp [go_sem] at zz));(try clear di dC);(try clear bG);have bG:=zz;clear zz;(try clear bV);obtain ⟨di,dC,bV⟩:=bO bG;have zz:=hQ fZ (b:=w4.heap.size);(first|(simp [go_sem,eB,fH] at zz)|(simp [go_sem] at zz));(try clear gW gX);(try clear eB);have eB:=zz;clear zz;(try clear fH);obtain ⟨gW,gX,fH⟩:=bO eB
 clear fZ
 replace UL:=UL.below MU
 replace X0:=X0.below MU
 obtain ⟨ga,gc,rfl,_⟩:=ai.seg G0
 have GL:=ai.new G0
 clear G0
 have lG:=New.lo' GL
 go_wp2_with fail
 refine (jU ans _ _ _ _ _ (GL.segAt zB) (UL.segAt zB) my).mono ?_
 rintro _ w7 ⟨rfl,FV⟩
 have vZ:Below w.heap.size w w7:=bT zB FV
 have Dt:Below w6.heap.size w6 w7:=bT zB FV
 have Mo:=FV.size;(try (simp at Mo));have zz:=hQ FV (b:=w.heap.size);(first|(simp [go_sem,bG,bV] at zz)|(simp [go_sem] at zz));(try clear di dC);(try clear bG);have bG:=zz;clear zz;(try clear bV);obtain ⟨di,dC,bV⟩:=bO bG;have zz:=hQ FV (b:=w4.heap.size);(first|(simp [go_sem,eB,fH] at zz)|(simp [go_sem] at zz));(try clear gW gX);(try clear eB);have eB:=zz;clear zz;(try clear fH);obtain ⟨gW,gX,fH⟩:=bO eB
 clear FV
 replace UL:=UL.below Dt
 replace X0:=X0.below Dt
 replace GL:=GL.below Dt
 go_upto_region 10 with fail
 refine bJ [[],[],[1],[0,1,2],[0,1,2,3]] [27,28,29,30,31] (fun l s wx=>(Below w7.heap.size w7 wx)∧(l 0=true→s 27=.agg (dP x (.slice (some ⟨y1,0,none⟩) x.ch.cells.length x.ch.cells.length) (.slice (some ⟨y2,0,none⟩) x.ch.words.length x.ch.words.length) (.slice (some ⟨y3,0,none⟩) x.hands.length x.hands.length) (.slice (some ⟨y4,0,none⟩) x.deals.length x.deals.length)))∧(l 1=true→s 28=.agg (dP x (.slice a x.ch.cells.length p1) (.slice b x.ch.words.length p2) (.slice d x.hands.length p3) (.slice e x.deals.length p4)))∧(l 2=true→∃ g1 g2 g3 g4:Nat,s 29=.agg (dP x (.slice (some ⟨g1,0,none⟩) x.ch.cells.length x.ch.cells.length) (.slice (some ⟨g2,0,none⟩) x.ch.words.length x.ch.words.length) (.slice (some ⟨g3,0,none⟩) x.hands.length x.hands.length) (.slice (some ⟨g4,0,none⟩) x.deals.length x.deals.length))∧gJ wx w7.heap.size x g1 g2 g3 g4)∧(l 3=true→s 30=.bool true)∧(l 4=true→s 31=.bool false)) (by kernel_rfl) (by kernel_rfl) (by kernel_rfl) (fun s=>by (simp only [fill,gp,List.setIfInBounds_toArray,List.set_cons_zero,List.set_cons_succ];rfl)) (fun s=>⟨(Below.refl _ _).drew,fun h=>absurd h Bool.false_ne_true,fun h=>absurd h Bool.false_ne_true,fun h=>absurd h Bool.false_ne_true,fun h=>absurd h Bool.false_ne_true,fun h=>absurd h Bool.false_ne_true⟩) ?_ ?_
 refine ⟨?_,?_,?_,?_,?_,trivial⟩;iterate 5 (intro l s wx hl hd hn hf K hK;rotate_left)
 ·intro l s w8 hall hf
  have ec:=hf.2.2.2.2.2 (hall 4 rfl)
  have Mq:Below w7.heap.size w7 w8:=hf.1
  simp only [ec]
  clear ec hf hall
  have Q8:Below w.heap.size w w8:=bT vZ Mq
  have Q9:=Mq.size
  replace UL:=UL.below Mq
  replace X0:=X0.below Mq
  replace GL:=GL.below Mq
  replace bG:=fC bG Mq
  clear di dC bV
  obtain ⟨di,dC,bV⟩:=bO bG
  replace eB:=fC eB Mq
  clear gW gX fH
  obtain ⟨gW,gX,fH⟩:=bO eB
  go_wp2_with fail
  refine (uP x _ _ _ _ _ _ _ _ _ _ _ (X0.below zB) A0 m).mono ?_
  rintro _ w9 ⟨rfl,_,hP⟩
  replace hP:jk _ w8 w9:=jk.trans (jk.of_below zB) hP
  have hO:jV w3.heap.size w4.heap.size w8 w9:=hP.toR fun i o=>by have:=mF.ofW (w':=w) X0 i o;omega
  have jd:=hO.2.2.2.1
  have LQ:Below w.heap.size w w9:=jV.below Q8 hO tO tO
  replace UL:=UL.keptR hO (fun i e=>by have:=lU i e;omega)
  replace GL:=GL.keptR hO (fun i e=>by have:=lG i e;omega)
  replace bG:=hO.hpk bG tO
  clear di dC bV
  obtain ⟨di,dC,bV⟩:=bO bG
  replace eB:=hO.hpk eB tO
  clear gW gX fH
  obtain ⟨gW,gX,fH⟩:=bO eB
  clear X0 hO hP
  go_wp2_with fail
  refine (jU ans _ _ _ _ _ (GL.segAt zB) (UL.segAt zB) my).mono ?_
  rintro _ Ky ⟨rfl,iA⟩
  have Pq:Below w.heap.size w Ky:=bT zB iA
  have ND:Below w9.heap.size w9 Ky:=bT zB iA
  have zD:=iA.size;(try (simp at zD));have zz:=hQ iA (b:=w.heap.size);(first|(simp [go_sem,bG,bV] at zz)|(simp [go_sem] at zz));(try clear di dC);(try clear bG);have bG:=zz;clear zz;(try clear bV);obtain ⟨di,dC,bV⟩:=bO bG;have zz:=hQ iA (b:=w4.heap.size);(first|(simp [go_sem,eB,fH] at zz)|(simp [go_sem] at zz));(try clear gW gX);(try clear eB);have eB:=zz;clear zz;(try clear fH);obtain ⟨gW,gX,fH⟩:=bO eB
  clear iA
  replace UL:=UL.below ND
  replace GL:=GL.below ND
  go_wp2_with fail
  refine (mY ans.length (fP ans) _ _ 1 _ (GL.below zB) tO tO my).mono ?_
  rintro _ Lv ⟨rfl,MG,hg⟩
  have hO:gV (Value.slice ga ans.length gc).ownBlock none Ky Lv:=fA (dA zB) (kS hg)
  clear hg
  have Ee:=hO.2.2.2.1
  have eG:∀ i,(Value.slice ga ans.length gc).ownBlock=some i→w5.heap.size≤i:=fun i e=>(lG i ((eO _ _ _).symm.trans e)).1
  have QA:Below w.heap.size w Lv:=Bc Pq hO (fun i e=>by have:=eG i e;omega) (fun i e=>by cases e)
  replace UL:=UL.keptO hO (fun i e k=>by have:=eG i k;have:=lU i ((eO _ _ _).symm.trans e);omega) (fun i e k=>by cases k)
  replace bG:=(qU hO bV (fun e=>by have:=eG _ e.symm;omega) (fun e=>by cases e)).trans bG
  clear di dC bV
  obtain ⟨di,dC,bV⟩:=bO bG
  replace eB:=(qU hO fH (fun e=>by have:=eG _ e.symm;omega) (fun e=>by cases e)).trans eB
  clear gW gX fH
  obtain ⟨gW,gX,fH⟩:=bO eB
  clear GL hO eG
  have GL:=MG
  clear MG
  go_wp2_with fail
  refine (mZ ans.length _ _ 1 _ (GL.below zB) tO tO my).mono ?_
  rintro _ Oq ⟨rfl,vP⟩
  have QB:Below w.heap.size w Oq:=bT zB vP
  have NF:Below Lv.heap.size Lv Oq:=bT zB vP
  have NG:=vP.size;(try (simp at NG));have zz:=hQ vP (b:=w.heap.size);(first|(simp [go_sem,bG,bV] at zz)|(simp [go_sem] at zz));(try clear di dC);(try clear bG);have bG:=zz;clear zz;(try clear bV);obtain ⟨di,dC,bV⟩:=bO bG;have zz:=hQ vP (b:=w4.heap.size);(first|(simp [go_sem,eB,fH] at zz)|(simp [go_sem] at zz));(try clear gW gX);(try clear eB);have eB:=zz;clear zz;(try clear fH);obtain ⟨gW,gX,fH⟩:=bO eB
  clear vP
  replace UL:=UL.below NF
  replace GL:=GL.below NF
  go_wp2_with fail
  refine (iL x a b d e p1 p2 p3 p4 _ (((H.out.below zB).more tS)) m).mono ?_
  rintro _ Ot ⟨⟨q1,q2,q3,q4,rfl,Q⟩,vQ⟩
  have QC:Below w.heap.size w Ot:=bT zB vQ
  have NH:Below Oq.heap.size Oq Ot:=bT zB vQ
  have NI:=vQ.size;(try (simp at NI));have zz:=hQ vQ (b:=w.heap.size);(first|(simp [go_sem,bG,bV] at zz)|(simp [go_sem] at zz));(try clear di dC);(try clear bG);have bG:=zz;clear zz;(try clear bV);obtain ⟨di,dC,bV⟩:=bO bG;have zz:=hQ vQ (b:=w4.heap.size);(first|(simp [go_sem,eB,fH] at zz)|(simp [go_sem] at zz));(try clear gW gX);(try clear eB);have eB:=zz;clear zz;(try clear fH);obtain ⟨gW,gX,fH⟩:=bO eB
  clear vQ
  replace UL:=UL.below NH
  replace GL:=GL.below NH
  go_wp2_with fail
  refine (HI.out _ _ _ _ _ _ _ _ _ ((Q.below (Below.refl _ _) (Nat.le_refl _)).seg) (sV _ _ _ _ _ _ _ _ _)).mono ?_
  rintro _ Ou ⟨⟨vh,rfl,H0⟩,vR⟩
  have QD:Below w.heap.size w Ou:=bT zB vR
  have NJ:Below Ot.heap.size Ot Ou:=bT zB vR
  have NK:=vR.size;(try (simp at NK));have zz:=hQ vR (b:=w.heap.size);(first|(simp [go_sem,bG,bV] at zz)|(simp [go_sem] at zz));(try clear di dC);(try clear bG);have bG:=zz;clear zz;(try clear bV);obtain ⟨di,dC,bV⟩:=bO bG;have zz:=hQ vR (b:=w4.heap.size);(first|(simp [go_sem,eB,fH] at zz)|(simp [go_sem] at zz));(try clear gW gX);(try clear eB);have eB:=zz;clear zz;(try clear fH);obtain ⟨gW,gX,fH⟩:=bO eB
  clear vR
  replace UL:=UL.below NJ
  replace GL:=GL.below NJ
  obtain ⟨ha,hc,rfl,_⟩:=ai.seg H0
  have HL:=ai.new H0
  clear H0
  have lH:=New.lo' HL
  go_wp2_with fail
  refine (jU ans _ _ _ _ _ (HL.segAt zB) (UL.segAt zB) my).mono ?_
  rintro _ Ov ⟨rfl,vS⟩
  have QE:Below w.heap.size w Ov:=bT zB vS
  have Mr:Below Ou.heap.size Ou Ov:=bT zB vS
  have NL:=vS.size;(try (simp at NL));have zz:=hQ vS (b:=w.heap.size);(first|(simp [go_sem,bG,bV] at zz)|(simp [go_sem] at zz));(try clear di dC);(try clear bG);have bG:=zz;clear zz;(try clear bV);obtain ⟨di,dC,bV⟩:=bO bG;have zz:=hQ vS (b:=w4.heap.size);(first|(simp [go_sem,eB,fH] at zz)|(simp [go_sem] at zz));(try clear gW gX);(try clear eB);have eB:=zz;clear zz;(try clear fH);obtain ⟨gW,gX,fH⟩:=bO eB
  clear vS
  replace UL:=UL.below Mr
  replace GL:=GL.below Mr
  replace HL:=HL.below Mr
  go_wp2_with fail
  refine (mZ ans.length _ _ 1 _ (GL.below zB) tO tO my).mono ?_
  rintro _ w16 ⟨rfl,vT⟩
  have Ps:Below w.heap.size w w16:=bT zB vT
  have Ms:Below Ov.heap.size Ov w16:=bT zB vT
  have NM:=vT.size;(try (simp at NM));have zz:=hQ vT (b:=w.heap.size);(first|(simp [go_sem,bG,bV] at zz)|(simp [go_sem] at zz));(try clear di dC);(try clear bG);have bG:=zz;clear zz;(try clear bV);obtain ⟨di,dC,bV⟩:=bO bG;have zz:=hQ vT (b:=w4.heap.size);(first|(simp [go_sem,eB,fH] at zz)|(simp [go_sem] at zz));(try clear gW gX);(try clear eB);have eB:=zz;clear zz;(try clear fH);obtain ⟨gW,gX,fH⟩:=bO eB
  clear vT
  replace UL:=UL.below Ms
  replace GL:=GL.below Ms
  replace HL:=HL.below Ms
  go_wp2
  go_ret
  exact ⟨rfl,Ps⟩
 ·have hB:=hf.out.1
  have z:=fC eB hB
  go_simp
  refine hK.out (upd s 27 (.agg (dP x (.slice (some ⟨y1,0,none⟩) x.ch.cells.length x.ch.cells.length) (.slice (some ⟨y2,0,none⟩) x.ch.words.length x.ch.words.length) (.slice (some ⟨y3,0,none⟩) x.hands.length x.hands.length) (.slice (some ⟨y4,0,none⟩) x.deals.length x.deals.length)))) _ _ (by simp [ae] <;> rfl) ⟨hf.out.1,fun _=>rfl,fun h=>(hf.out.2.2.1 h),fun h=>(hf.out.2.2.2.1 h),fun h=>absurd h (by rw [show upd l 0 true 3=l 3 from rfl,hn 3 rfl];exact Bool.false_ne_true),fun h=>absurd h (by rw [show upd l 0 true 4=l 4 from rfl,hn 4 rfl];exact Bool.false_ne_true)⟩
 ·have hB:=hf.out.1
  have z:=fC bG hB
  go_simp
  refine hK.out (upd s 28 (.agg (dP x (.slice a x.ch.cells.length p1) (.slice b x.ch.words.length p2) (.slice d x.hands.length p3) (.slice e x.deals.length p4)))) _ _ (by simp [ae] <;> rfl) ⟨hf.out.1,fun h=>(hf.out.2.1 h),fun _=>rfl,fun h=>absurd h (by rw [show upd l 1 true 2=l 2 from rfl,hn 2 rfl];exact Bool.false_ne_true),fun h=>absurd h (by rw [show upd l 1 true 3=l 3 from rfl,hn 3 rfl];exact Bool.false_ne_true),fun h=>absurd h (by rw [show upd l 1 true 4=l 4 from rfl,hn 4 rfl];exact Bool.false_ne_true)⟩
 ·have e1:=(hf.out.2.2.1 (hd 1 rfl))
  have hB:=hf.out.1
  go_simp
  go_at_call 39
  refine (iL x a b d e p1 p2 p3 p4 _ (((H.out.below (bT vZ hB))).more (bT vZ hB).size) m).mono ?_
  rintro _ wy ⟨⟨g1,g2,g3,g4,rfl,G⟩,hE⟩
  refine hK.out (upd s 29 (.agg (dP x (.slice (some ⟨g1,0,none⟩) x.ch.cells.length x.ch.cells.length) (.slice (some ⟨g2,0,none⟩) x.ch.words.length x.ch.words.length) (.slice (some ⟨g3,0,none⟩) x.hands.length x.hands.length) (.slice (some ⟨g4,0,none⟩) x.deals.length x.deals.length)))) _ _ (by simp [ae,e1] <;> rfl) ⟨bT hf.out.1 hE,fun h=>(hf.out.2.1 h),fun h=>(hf.out.2.2.1 h),fun _=>⟨g1,g2,g3,g4,rfl,gJ.lo' G hB.size⟩,fun h=>absurd h (by rw [show upd l 2 true 3=l 3 from rfl,hn 3 rfl];exact Bool.false_ne_true),fun h=>absurd h (by rw [show upd l 2 true 4=l 4 from rfl,hn 4 rfl];exact Bool.false_ne_true)⟩
 ·have e0:=(hf.out.2.1 (hd 0 rfl))
  have hB:=hf.out.1
  obtain ⟨g1,g2,g3,g4,e2,G⟩:=(hf.out.2.2.2.1 (hd 2 rfl))
  go_simp
  go_at_call 41
  refine (ng x _ _ _ _ _ _ _ _ _ _ _ _ _ _ _ _ _ (X0.segAt hB) (gJ.seg G) m).mono ?_
  rintro _ wy ⟨rfl,hE⟩
  refine hK.out (upd s 30 (.bool true)) _ _ (by simp [ae,e0,e2] <;> rfl) ⟨bT hf.out.1 hE,fun h=>(hf.out.2.1 h),fun h=>(hf.out.2.2.1 h),fun h=>(let ⟨g1,g2,g3,g4,e,R⟩:=(hf.out.2.2.2.1 h);⟨g1,g2,g3,g4,e,gJ.belowS R hE⟩),fun _=>rfl,fun h=>absurd h (by rw [show upd l 3 true 4=l 4 from rfl,hn 4 rfl];exact Bool.false_ne_true)⟩
 ·have e3:=(hf.out.2.2.2.2.1 (hd 3 rfl))
  have hB:=hf.out.1
  go_simp
  refine hK.out (upd s 31 (.bool false)) _ _ (by simp [ae,e3] <;> rfl) ⟨hf.out.1,fun h=>(hf.out.2.1 h),fun h=>(hf.out.2.2.1 h),fun h=>(hf.out.2.2.2.1 h),fun h=>(hf.out.2.2.2.2.1 h),fun _=>rfl⟩
end
section
open Go.ChangeShapes Go.WideShapes Go.ChangeAt Go.RowKit Go.Deep
theorem own:ownKnob Tryz.prog.godebug=none:=by kernel_rfl
theorem laidOut:laidOutB Tryz.prog=true:=by kernel_rfl
section
variable {H:Type} {enc:TypeId × Value→H} {P:Program} {w:World} {spare:Nat→Bool} {held:Bool}
theorem xK {α:Type} (k:Nat) (val:α→Nat→Value) (Q:α→Prop) (d0:α) {t e:TypeId} (ht:P.underlying t=some (.slice e)) (hk:P.cellsOf e=k) (hk0:0<k)
  (dec:∀ (fuel:Nat) (cs:List Value) (x:DataW H × List MemPlace),DataW.trod enc P w 0 spare held fuel e cs=some x→∃ c:α,Q c∧∀ j,j<k→cs[j]?=some (val c j))
  {fuel:Nat} {cs:List Value} {x:DataW H × List MemPlace} (h:DataW.trod enc P w 0 spare held fuel t cs=some x) :
  ∃ (a:Option Addr) (l:List α) (cap:Nat),cs=[.slice a l.length cap]∧l.length≤cap∧cap≤maxLen∧(∀ c ∈ l,Q c)∧Seg w w.heap.size a l.length k (fun i j=>val (l.getD i d0) j):=by
 rcases open_slice ht h with ⟨hcs,_⟩|⟨ad,len,cap,m,n,D,Pl,hcs,_,hl,hm,hmm,_,hi⟩
 ·exact ⟨none,[],0,hcs,Nat.le_refl _,Nat.zero_le _,by simp,.inl rfl⟩
 ·have hlm:len≤m:=by rw [hmm];split <;> omega
  have hx:∀ i:Nat,∃ c:α,i<len→(Q c∧∀ j,j<k→w.cell? (ad.add (i*k+j))=some (val c j)):=by
   intro i
   by_cases hlt:i<len
   ·obtain ⟨cs',hc,htr⟩:=hi i tO
    rw [hk] at hc
    obtain ⟨_,_,hat⟩:=World.cells?_some hc
    obtain ⟨c,hq,hv⟩:=dec _ _ _ htr
    refine ⟨c,fun _=>⟨hq,fun j hj=>?_⟩⟩
    rw [← Go.Deep.add_add,hat j hj,hv j hj]
   ·exact ⟨d0,fun h=>absurd h hlt⟩
  obtain ⟨g,hg⟩:=Classical.axiomOfChoice hx
  refine ⟨some ad,(List.range len).map g,cap,by simpa using hcs,by simpa using hl,hm,?_,?_⟩
  ·intro c hc
   obtain ⟨i,hi',rfl⟩:=List.mem_map.1 hc
   exact (hg i (List.mem_range.1 hi')).1
  ·by_cases h0:len=0
   ·exact .inl (by simpa using h0)
   ·obtain ⟨b,off,spot⟩:=ad
    have hz:=(hg 0 tO).2 0 hk0
    have hspot:spot=none:=by simpa [Addr.add] using World.cell?_spot hz
    subst hspot
    refine .inr ⟨b,off,rfl,?_,fun i j hi' hj=>?_⟩
    ·have:=block_lt_of_cell hz
     simpa [Addr.add] using this
    ·have hlt:i<len:=by simpa using hi'
     have:=(hg i hlt).2 j hj
     rw [add_plain,← Nat.add_assoc] at this
     rw [this]
     simp [List.getD,hlt]
end
def Ep (P:Program) (fs:Array Field):Bool:=fs.toList.zipIdx.all fun (f,i)=>decide (f.offset=i) && decide (P.cellsOf f.type=1) && (match P.underlying f.type with|some (.int .i64)=>true|_=>false)
theorem Du {P:Program} {fs:Array Field} (h:Ep P fs=true) {j:Nat} {f:Field} (hj:fs[j]?=some f):f.offset=j∧P.cellsOf f.type=1∧P.underlying f.type=some (.int .i64):=by
 have hm:(f,j) ∈ fs.toList.zipIdx:=by
  rw [List.mem_zipIdx_iff_getElem?]
  simpa using hj
 have:=List.all_eq_true.1 h _ hm
 simp only [Bool.and_eq_true,decide_eq_true_eq] at this
 refine ⟨this.1.1,this.1.2,?_⟩
 have h2:=this.2
 split at h2
 ·assumption
 ·cases h2
section
variable {H:Type} {enc:TypeId × Value→H} {P:Program} {w:World} {spare:Nat→Bool} {held:Bool}
theorem LG {t:TypeId} {fs:Array Field} (ht:P.underlying t=some (.struct fs)) (hall:Ep P fs=true) (hC:P.cellsOf t=fs.size)
  {fuel:Nat} {cs:List Value} {x:DataW H × List MemPlace} (h:DataW.trod enc P w 0 spare held fuel t cs=some x) :
  cs.length=fs.size∧∃ g:Nat→Int,∀ j,j<fs.size→(cs[j]?=some (.int .i64 (g j))∧(Lit.int .i64 (g j)).wf=true):=by
 obtain ⟨xs,n,_,_,hlen,hxl,hf⟩:=DataW.trod_struct ht h
 have hx:∀ j:Nat,∃ a:Int,j<fs.size→(cs[j]?=some (.int .i64 a)∧(Lit.int .i64 a).wf=true):=by
  intro j
  by_cases hj:j<fs.size
  ·obtain ⟨h1,h2,h3⟩:=Du hall (Array.getElem?_eq_getElem hj)
   have g:=hf j _ (Array.getElem?_eq_getElem hj)
   rw [h1,h2,List.getElem?_eq_getElem tO] at g
   obtain ⟨a,ea,_,wa⟩:=DataW.trod_int h3 g
   refine ⟨a,fun _=>⟨?_,wa⟩⟩
   have e:=congrArg (fun l:List Value=>l[0]?) ea
   simpa [List.getElem?_take,List.getElem?_drop] using e
  ·exact ⟨0,fun h=>absurd h hj⟩
 obtain ⟨g,hg⟩:=Classical.axiomOfChoice hx
 exact ⟨hlen.trans hC,g,hg⟩
end
def C3.wf (c:C3):Prop:=(Lit.int .i64 c.s).wf=true∧(Lit.int .i64 c.e).wf=true∧(Lit.int .i64 c.t).wf=true
section
variable {H:Type} {enc:TypeId × Value→H} {w:World} {spare:Nat→Bool} {held:Bool}
theorem NN (fuel:Nat) (cs:List Value) (x:DataW H × List MemPlace) (h:DataW.trod enc Tryz.prog w 0 spare held fuel 195 cs=some x) :
  ∃ c:C3,c.wf∧∀ j,j<3→cs[j]?=some (c.val j):=by
 obtain ⟨_,g,hg⟩:=LG Tryz.underlying195 (by kernel_rfl) (by kernel_rfl) h
 refine ⟨⟨g 0,g 1,g 2⟩,⟨(hg 0 (by decide)).2,(hg 1 (by decide)).2,(hg 2 (by decide)).2⟩,fun j hj=>?_⟩
 have:j=0∨j=1∨j=2:=by omega
 rcases this with rfl|rfl|rfl
 ·exact (hg 0 (by decide)).1
 ·exact (hg 1 (by decide)).1
 ·exact (hg 2 (by decide)).1
end
end
end Go.Proofs.YtffhjmepfojhnaaGreat
