/-
  A world in a box of the call's own: loading and storing its channel, its hands; no condition but where it lies.
  The program's walk over who is parked: what it yields, one after the other; lists of at most 1048576 elements that lie in memory.
  The program's ParkedIn: what it answers, a list of its own; lists of at most 1048576 elements that lie in memory.
  What the exact laws' walks share: lists that lie apart, and how long they are; no condition.
  The exact laws of lists that are answered of worlds return true, whatever they are called with, and turn nothing that was there; the lists hold at most as much as memory can hold.
  How the arguments of the laws are opened: numbers, structs of numbers, and slices of these; no condition but that they can be read.
-/
import Derived.Test.YtmnpgkcdfielbaaGreatP21
import Derived.Test.YtmnpgkcdfielbaaGreatP05
import Derived.RangeFuncNested
import Derived.RangeFuncBound
import Derived.RangeFuncCalls
import Derived.RangeFuncLeaves
import Derived.RangeFuncBox
import Derived.Shelf.Abstract
import Derived.Shelf.RegionOpen
import Derived.WalkKit
import Derived.OwnWalkIn
import Derived.TacticsInMore
import Derived.LoopNIn
import Derived.LoopIn
import Derived.Maps.AppendAt
import Derived.Test.YtmnpgkcdfielbaaGreatP14
import Derived.Test.YtmnpgkcdfielbaaGreatP18
import Derived.Test.YtmnpgkcdfielbaaGreatP20
import Derived.Test.YtmnpgkcdfielbaaGreatP16
import Derived.Deep.RegionHeld3
import Derived.Deep.DeepCutAuto
import Derived.Test.YtmnpgkcdfielbaaGreatRows
import Derived.Test.YtmnpgkcdfielbaaGreatP01
import Derived.ProofKit
import Derived.OpenShut
import Derived.ShutString
import Derived.ChangeOld
import Derived.Deep.Slices
import Derived.Deep.Fields
set_option linter.unusedSimpArgs false
set_option linter.unusedVariables false
namespace Go.Proofs.YtmnpgkcdfielbaaGreat
open Go.RowKit
set_option linter.unusedSimpArgs false
theorem ldChanW {w:World} {B:Nat} {x:Wo} {v1 v2 v3 v4:Value} (z:hp w B=some (.cells (wvals x v1 v2 v3 v4) 38)):(LChan (.pointer (some ⟨B,0,none⟩))).run Tryz.prog w=.ok (.agg (cvals x.ch v1 v2)) w:=by
  have h0:w.cell? ⟨B,0,none⟩=some (.int .i64 x.ch.cap):=(bO z).1 0
  have h1:w.cell? ⟨B,1,none⟩=some (.int .i64 x.ch.sent):=(bO z).1 1
  have h2:w.cell? ⟨B,2,none⟩=some (.int .i64 x.ch.got):=(bO z).1 2
  have h3:w.cell? ⟨B,3,none⟩=some (.int .i64 x.ch.fin):=(bO z).1 3
  have h4:w.cell? ⟨B,4,none⟩=some v1:=(bO z).1 4
  have h5:w.cell? ⟨B,5,none⟩=some v2:=(bO z).1 5
  unfold LChan
  simp [cvals,go_sem, *]
attribute [local simp] bx_size
attribute [local go_sem ↓] zeroHand zeroChan toLHand toLChan toVHand toVChan storeHand storeChan storeHandC storeChanC
attribute [local go_sem ↓] toSHand
attribute [local go_sem] runSHand
end Go.Proofs.YtmnpgkcdfielbaaGreat
set_option linter.unusedSimpArgs false
set_option linter.unusedVariables false
namespace Go.Proofs.YtmnpgkcdfielbaaGreat
open Go.RowKit Go.Shelf
set_option linter.unusedSimpArgs false
attribute [local go_sem] Oper.semAt_some
attribute [local simp] bx_size
attribute [local go_sem ↓] zeroHand zeroChan toLHand toLChan toVHand toVChan storeHand storeChan storeHandC storeChanC
/-- What a round leaves as it is. -/
def KeepP (n B:Nat) (W W':World):Prop:=Below n W W'∧hp W' B=hp W B
theorem keepP_t {n B:Nat} {X Y Z:World} (h:KeepP n B X Y) (k:KeepP n B Y Z):KeepP n B X Z:=⟨h.1.trans k.1,k.2.trans h.2⟩
theorem abide {J:List Int→World→Prop} {B:Nat} {t:List Int} {X Y:World} (hJ:AbidesFrom B J) (h:J t X) (hb:Below X.heap.size X Y):J t Y:=hJ t X Y none h ⟨hb.os,hb.tape,hb.output,hb.size,fun k hk _=>hb.block k hk⟩ (fun _ e=>nomatch e)
set_option maxRecDepth 100000 in
set_option maxHeartbeats 4000000 in
theorem parked1_in (n:Nat) (hn:1≤n) (l Bn Bw n0:Nat) (x:Wo) (a b d e:Option Addr) (p q r s:Nat) (J Jx:List Int→World→Prop) (W:World) (m:LenW x) (hlen:1≤x.hands.length)
    (hY:∀ pre y X,J pre X→pre.length<x.hands.length→YieldAt Fence.wide (n - 1) Tryz.prog l #[.int .i64 y] X fun f X'=>(f=.returned (.bool true)∧J (pre ++ [y]) X'∧KeepP n0 Bn X X')∨(f=.returned (.bool false)∧Jx (pre ++ [y]) X'))
    (hJ:AbidesFrom W.heap.size J) (hBn:hp W Bn=some (.cells #[.pointer (some ⟨Bw,0,none⟩)] 56)) (hBw:hp W Bw=some (.cells (wvals x (.slice a x.ch.cells.length p) (.slice b x.ch.words.length q) (.slice d x.hands.length r) (.slice e x.deals.length s)) 38)) (hlo:Bw<n0) (hn0:n0≤W.heap.size) (S:SegW W n0 x a b d e) (N:NoneW x a b d e p q r s) (h0:J [] W) :
    CallsIn Fence.wide n Tryz.prog 47 #[.func (.yield l) #[] #[],.pointer (some ⟨Bn,0,none⟩)] W fun f X=>(∃ v,f=.returned v)∧((∃ ys,ys=parkTo x x.hands.length∧J ys X)∨(∃ pre,(∃ k,k≤x.hands.length∧pre=parkTo x k)∧Jx pre X)):=by
  obtain ⟨s1,s2,s3,s4⟩:=S
  obtain ⟨n1,n2,n3,n4⟩:=N
  obtain ⟨b3,o3,rfl,hb3,hc3⟩:∃ b o,d=some ⟨b,o,none⟩∧b<n0∧Hid (∀ i j,i<x.hands.length→j<14→W.cell? ⟨b,o+i*14+j,none⟩=some (handF x.hands i j)):=by
    rcases s3 with h|h
    · omega
    · exact h
  have lBn:Bn<W.heap.size:=(bO hBn).2.2
  have hLd:∀ (i:Nat) (X:World),i<x.hands.length→Below n0 W X→(LHand (.pointer (some ⟨b3,o3+i*14,none⟩))).run Tryz.prog X=.ok (.agg (hvals (handAt x i))) X:=fun i X hi hX=>ldHandE _ fun j hj=>by rw [show (hvals (handAt x i)).getD j (.int .i64 0)=handF x.hands i j by simp [handF,handAt],← hc3.out i j hi hj];exact World.cell?_of_block (hX.block b3 hb3)
  refine callsIn_of_wp Tryz.func47 rfl trivial ?_ rfl
  simp only [Tryz.ntmps47,List.size_toArray,List.length_cons,List.length_nil,Nat.reduceAdd,Nat.reduceSub,Array.replicate_succ,Array.replicate_zero,List.push_toArray,List.append_toArray,List.nil_append,List.cons_append]
  have x_n:W.cell? ⟨Bn,0,none⟩=some (.pointer (some ⟨Bw,0,none⟩)):=(bO hBn).1 0
  have x_w:W.cell? ⟨Bw,6,none⟩=some (.slice (some ⟨b3,o3,none⟩) x.hands.length r):=(bO hBw).1 6
  gi_wp2
  gi_loopw [11] (fun i wr=>∃ k:Nat,k≤x.hands.length∧i=.int .i64 k∧J (parkTo x k) wr∧KeepP n0 Bn W wr∧W.heap.size≤wr.heap.size)
    (fun i _=>x.hands.length - (intOf i).toNat)
  case atStart=>exact ⟨0,Nat.zero_le _,rfl,h0,⟨Below.refl _ _,rfl⟩,Nat.le_refl _⟩
  case round =>
    obtain ⟨k,hk,rfl,hJs,hKp,hsz⟩:=hrel
    by_cases hlt:k<x.hands.length
    · obtain ⟨h0,hh⟩:∃ h0,Hid (h0=handAt x k):=⟨_,rfl⟩
      have hL:=hLd k wr hlt hKp.1
      rw [← hh.out] at hL
      have hi0:(0:Int)≤(k:Int):=by omega
      have hi1:(k:Int)<(x.hands.length:Int):=by omega
      have x_n2:wr.cell? ⟨Bn,0,none⟩=some (.pointer (some ⟨Bw,0,none⟩)):=(bO (hKp.2.trans hBn)).1 0
      have z_W:=(hKp.1.block Bw hlo).trans hBw
      have hwk:wrap64 ((k:Int)+1)=((k+1:Nat):Int):=by have:=m.2.2.1;unfold wrap64;omega
      have hmx:Tryz.prog.follows .mixedOrders=true:=by kernel_rfl
      have lBr:Bn<wr.heap.size:=by omega
      gi_wp2
      generalize hw2:World.alloc wr _=w2
      have z_h:hp w2.drew wr.heap.size=some (.cells (hvals h0) 70):=by rw [← hw2];exact heap_alloc_new _ _
      have hb2:Below wr.heap.size wr w2:=by rw [← hw2];exact belowAlloc _ _
      have hs2:w2.heap.size=wr.heap.size+1:=by rw [← hw2];exact alloc_sz _ _
      clear hw2
      have x_h:w2.drew.cell? ⟨wr.heap.size,0,none⟩=some (.int .i64 h0.pos):=(bO z_h).1 0
      have x_d:w2.drew.cell? ⟨Bn,0,none⟩=some (.pointer (some ⟨Bw,0,none⟩)):=(hb2.cell (p:=⟨Bn,0,none⟩) lBr).trans x_n2
      have hLc:=ldChanW (w:=w2.drew) ((hb2.block Bw (by omega)).trans z_W)
      have hbd:Below wr.heap.size wr w2.drew:=hb2.drew
      have kp2:KeepP n0 Bn wr w2.drew:=⟨hbd.mono (by omega),hb2.block Bn lBr⟩
      cases hp0:(h0.pos == 23) with
      | false =>
        have hno:parkB x k=false:=by unfold parkB;rw [← hh.out,hp0];rfl
        gi_region_with_o (refine ⟨trivial,?_⟩)
        all_goals gi_wp2
        all_goals refine ⟨fun _ h=>(by cases h),?_⟩
        all_goals gi_wp2
        all_goals go_roundw
        all_goals first|exact ⟨k+1,by omega,by rw [hwk],by rw [parkTo_no hno];exact abide hJ hJs hbd,keepP_t hKp kp2,by show W.heap.size≤w2.heap.size;omega⟩|(rw [hwk];simp [intOf];omega)
      | true =>
        obtain ⟨tb,htb⟩:∃ tb,Hid (tb=staysN (stepC x.ch h0)):=⟨_,rfl⟩
        have hyes:parkB x k=tb:=by unfold parkB;rw [← hh.out,hp0,htb.out];rfl
        have HST:=Lib.hid (iStays_any x.ch h0 a b p q w2.drew ((s1.below (hKp.1.trans kp2.1)).more (by show n0≤w2.heap.size;omega)) n1 ((s2.below (hKp.1.trans kp2.1)).more (by show n0≤w2.heap.size;omega)) n2 (by have:=m.1;unfold maxLen;omega) (by have:=m.2.1;unfold maxLen;omega))
        rw [← htb.out] at HST
        gi_region_with_o (refine ⟨trivial,?_⟩;gi_at_call 48;refine (callsIn_wide.2 HST.out).mono ?_;rintro _ w3 ⟨rfl,hb3w⟩)
        all_goals
          have hbe:Below wr.heap.size wr w3:=hbd.trans (hb3w.mono (by show wr.heap.size≤w2.heap.size;omega))
          have kp3:KeepP n0 Bn wr w3:=keepP_t kp2 ⟨hb3w.mono (by show n0≤w2.heap.size;omega),hb3w.block Bn (by show Bn<w2.heap.size;omega)⟩
          have hJ3:=abide hJ hJs hbe
          have hs3:=hbe.size
          clear hLc HST hb3w hbd kp2 htb
          cases tb with
          | false =>
            gi_wp2
            refine ⟨fun _ h=>(by cases h),?_⟩
            gi_wp2
            go_roundw
            all_goals first|exact ⟨k+1,by omega,by rw [hwk],by rw [parkTo_no hyes];exact hJ3,keepP_t hKp kp3,by omega⟩|(rw [hwk];simp [intOf];omega)
          | true =>
            obtain ⟨fn,tmps,assign,body,hy,hR⟩:=hY (parkTo x k) k w3 hJ3 (by have:=parkTo_len x k;omega)
            gi_wp2
            refine hR.mono ?_
            rintro f W3 (⟨rfl,hJ4,hk4⟩|⟨rfl,hJx4⟩)
            · have hs4:=hk4.1.size
              gi_wp2
              go_roundw
              all_goals first|exact ⟨k+1,by omega,by rw [hwk],by rw [parkTo_yes hyes];exact hJ4,keepP_t (keepP_t hKp kp3) hk4,by omega⟩|(rw [hwk];simp [intOf];omega)
            · gi_wp2
              refine bodyPost_ret (results_none rfl _ _ _) rfl ?_
              exact ⟨⟨_,rfl⟩,.inr ⟨_,⟨k+1,by omega,(parkTo_yes hyes).symm⟩,hJx4⟩⟩
    · obtain rfl:k=x.hands.length:=by omega
      gi_wp2
      go_end0
      exact ⟨⟨_,rfl⟩,.inl ⟨_,rfl,hJs⟩⟩
end Go.Proofs.YtmnpgkcdfielbaaGreat
set_option linter.unusedSimpArgs false
set_option linter.unusedVariables false
namespace Go.Proofs.YtmnpgkcdfielbaaGreat
open Go.RowKit Go.Shelf
set_option linter.unusedSimpArgs false
attribute [local go_sem] Oper.semAt_some
theorem bHitIn {F:Fence} {n:Nat} {P:Program} {f:FuncId} {args:Array Value} {W:World} {Q:Ending→World→Prop} (w:World) (h:Below w.heap.size w W) (k:Below w.heap.size w W→CallsIn F n P f args W Q):CallsIn F n P f args W Q:=k h
theorem parkedP_any (B:Nat) (w:World):Calls Tryz.prog 22 #[.pointer (some ⟨B,0,none⟩)] w fun r w'=>r=.returned (.func (.func 47) #[] #[.pointer (some ⟨w.heap.size,0,none⟩)])∧w'=w.alloc (.cells #[.pointer (some ⟨B,0,none⟩)] 56):=by
  go_enter Tryz.func22,Tryz.ntmps22
  go_wp2
  go_ret
  exact ⟨rfl,rfl⟩
theorem heap_at1 (w:World) (o1 o2 o3:Obj):hp (((w.alloc o1).alloc o2).alloc o3) (w.heap.size+1+1)=some o3:=by
  have h:=World.alloc_heap_new ((w.alloc o1).alloc o2) o3
  rwa [World.size_alloc,World.size_alloc] at h
theorem heap_at3 (w:World) (o1 o2 o3:Obj):hp (((w.alloc o1).alloc o2).alloc o3) w.heap.size=some o1:=by
  have h:=World.alloc_heap_new w o1
  exact ((Below.heap_alloc _ _ _ (by simp;omega)).trans (Below.heap_alloc _ _ _ (by simp))).trans h
theorem SegW.atP {w W:World} {x:Wo} {a b d e:Option Addr} (h:SegW w w.heap.size x a b d e) (hb:Below w.heap.size w W):SegW W W.heap.size x a b d e:=⟨(h.1.below hb).more hb.size,(h.2.1.below hb).more hb.size,(h.2.2.1.below hb).more hb.size,(h.2.2.2.below hb).more hb.size⟩
theorem parked_stops (n:Nat) (hn:1≤n) (Bn Bw n0:Nat) (x:Wo) (a b d e:Option Addr) (p q r s:Nat) (w:World) (m:LenW x) (hlen:1≤x.hands.length) (hBn:hp w Bn=some (.cells #[.pointer (some ⟨Bw,0,none⟩)] 56)) (hBw:hp w Bw=some (.cells (wvals x (.slice a x.ch.cells.length p) (.slice b x.ch.words.length q) (.slice d x.hands.length r) (.slice e x.deals.length s)) 38)) (hlo:Bw<n0) (hn0:n0≤w.heap.size) (S:SegW w n0 x a b d e) (N:NoneW x a b d e p q r s) :
    SeqStopsK Fence.wide n Tryz.prog 47 #[.pointer (some ⟨Bn,0,none⟩)] (fun y:Int=>#[Value.int .i64 y]) (KeepP n0 Bn) (fun ys=>ys=parkTo x x.hands.length) (fun pre=>∃ k,k≤x.hands.length∧pre=parkTo x k) x.hands.length w:=fun l J Jx W hW hJ _ hY h0 =>
  parked1_in n hn l Bn Bw n0 x a b d e p q r s J Jx W m hlen hY hJ ((hW.block Bn (bO hBn).2.2).trans hBn) ((hW.block Bw (by omega)).trans hBw) hlo (Nat.le_trans hn0 hW.size) ⟨S.1.below (hW.mono hn0),S.2.1.below (hW.mono hn0),S.2.2.1.below (hW.mono hn0),S.2.2.2.below (hW.mono hn0)⟩ N h0
set_option maxRecDepth 100000 in
set_option maxHeartbeats 4000000 in
theorem parkedInI_yes (x:Wo) (a b d e:Option Addr) (p q r s:Nat) (w:World) (h:SegW w w.heap.size x a b d e) (z:NoneW x a b d e p q r s) (m:LenW x) (hk:worldOk x=true) :
    Calls Tryz.prog 7 #[.agg #[.int .i64 x.ch.cap,.int .i64 x.ch.sent,.int .i64 x.ch.got,.int .i64 x.ch.fin,.slice a x.ch.cells.length p,.slice b x.ch.words.length q,.slice d x.hands.length r,.slice e x.deals.length s,.int .i64 x.now]] w fun r' w'=>(∃ v,r'=.returned v∧OInts w' w.heap.size v (parkTo x x.hands.length))∧Below w.heap.size w w':=by
  obtain ⟨i0,hi,hz0,hz1,hz2⟩:=info_parts infoInt
  refine (callsIn_wide (n:=3)).1 ?_
  refine callsIn_of_wp_marks Tryz.func7 rfl trivial ?_ rfl
  simp only [Tryz.ntmps7,List.size_toArray,List.length_cons,List.length_nil,Nat.reduceAdd,Nat.reduceSub,Array.replicate_succ,Array.replicate_zero,List.push_toArray,List.append_toArray,List.nil_append,List.cons_append]
  gi_wp2_with (first|(refine ⟨trivial,?_⟩;gi_at_call 21;refine bHitIn w (by exact zB) fun bb=>?_;refine (callsIn_wide.2 (worldOkI_any x a b d e p q r s _ (h.atP bb) m)).mono ?_;rintro _ w1 ⟨rfl,hb1⟩;rw [hk];have hB1:Below w.heap.size w w1:=bT bb hb1;have z_w:=(hb1.block w.heap.size (by simp;omega)).trans (heap_at3 w _ _ _);have z_t:Boxed w1 (w.heap.size+1+1) 23 (.slice (some ⟨w.heap.size+1,0,none⟩) 0 0):=(hb1.block (w.heap.size+1+1) (by simp)).trans (heap_at1 w _ _ _);have o0:w1.ownsRow (w.heap.size+1) 2 1 (.slice (some ⟨w.heap.size+1,0,none⟩) 0 0) 0 []:=own_below (own_below (own_made_at _ _ _ _ (w.heap.size+1) (by simp) (by simp)) (belowAlloc _ _)) hb1;have hs1:=hb1.size;(simp at hs1);clear hb1 bb)|(refine ⟨trivial,?_⟩;gi_at_call 22;refine (callsIn_wide.2 (parkedP_any w.heap.size _)).mono ?_;rintro _ w2 ⟨rfl,hw2⟩))
  clear hw2
  have hlen:1≤x.hands.length:=by
    simp [worldOk,worldHead] at hk
    omega
  have hBa:Below w.heap.size w (w1.alloc (.cells #[.pointer (some ⟨w.heap.size,0,none⟩)] 56)):=bA hB1
  have bN:=Boxed.new w1 56 (.pointer (some ⟨w.heap.size,0,none⟩))
  have z_w2:=(Below.heap_alloc w1 (.cells #[.pointer (some ⟨w.heap.size,0,none⟩)] 56) w.heap.size (by omega)).trans z_w
  have S2:SegW (w1.alloc (.cells #[.pointer (some ⟨w.heap.size,0,none⟩)] 56)) (w.heap.size+1) x a b d e:=⟨(h.1.below hBa).more (by omega),(h.2.1.below hBa).more (by omega),(h.2.2.1.below hBa).more (by omega),(h.2.2.2.below hBa).more (by omega)⟩
  refine wpIn_rangeFunc_ownG rfl (by omega) (gf:=47) (lb:=#[.pointer (some ⟨w1.heap.size,0,none⟩)]) rfl trivial (enters_of Tryz.func47 (by kernel_rfl) rfl)
    (parked_stops (3 - 1) (by omega) w1.heap.size w.heap.size (w.heap.size+1) x a b d e p q r s _ m hlen bN z_w2 (by omega) (by simp;omega) S2 z) keepP_t (fun W l o o' hl hW hc hw=>⟨belowK_b (w:=(w1.alloc (.cells #[.pointer (some ⟨w.heap.size,0,none⟩)] 56))) (by simp;omega) W l o o' hl hW hc hw,World.putObj_heap_other (by simp at hl;omega)⟩) (Below.refl _ _) (fun _=>rfl)
    (fun pre W=>(∃ v,Boxed W (w.heap.size+1+1) 23 v∧W.ownsRow (w.heap.size+1) 2 1 v pre.length (pre.map (Value.int .i64))∧True)∧Boxed W w1.heap.size 56 (.pointer (some ⟨w.heap.size,0,none⟩))∧Below w.heap.size w W)
    (fun _ _ _=>False)
    (OwnFrom.and (Own.from (holdsRow_own (w.heap.size+1) (w.heap.size+1+1) 23 2 1 (fun pre:List Int=>pre.length) (fun pre=>pre.map (Value.int .i64)) (fun _ _=>True)) _) (OwnFrom.and (Own.from (boxed_own _ _ _) _) (ownFrom_below (Nat.le_refl _) (by simp;omega))))
    (fun _ _ _ _ _ hs _ _=>hs)
    ⟨⟨_,z_t.alloc _,own_below o0 (belowAlloc _ _),trivial⟩,bN,hBa⟩
    (fun y=>{ tmps:=#[.agg #[.int .i64 x.ch.cap,.int .i64 x.ch.sent,.int .i64 x.ch.got,.int .i64 x.ch.fin,.slice a x.ch.cells.length p,.slice b x.ch.words.length q,.slice d x.hands.length r,.slice e x.deals.length s,.int .i64 x.now],.pointer (some ⟨w.heap.size,0,none⟩),.slice none 0 0,.pointer (some ⟨w.heap.size+1+1,0,none⟩),.int .i64 y,.slice (some ⟨w.heap.size+1,0,none⟩) 0 0,.agg #[.int .i64 x.ch.cap,.int .i64 x.ch.sent,.int .i64 x.ch.got,.int .i64 x.ch.fin,.slice a x.ch.cells.length p,.slice b x.ch.words.length q,.slice d x.hands.length r,.slice e x.deals.length s,.int .i64 x.now],.bool true,.bool false,undef,.func (.func 47) #[] #[.pointer (some ⟨w1.heap.size,0,none⟩)],.int .i64 y,undef,undef,undef,undef,undef],defers:=[] }) ?assign ?body ?done ?stop
  case assign =>
    intro l y W K hK
    gi_wp2
    exact hK
  case body =>
    rintro l pre y W ⟨⟨v,hv,hrow,_⟩,hbn,hB⟩ hlt
    have hc:=hv.cell
    have hpl:=m.2.2.1
    have hbl:=hbn.lt
    have b1:pre.length+1≤maxLen:=by unfold maxLen;omega
    have b2:(pre.length+1)*8≤140737488355328:=by omega
    have b3:w.heap.size+1≤(W.alloc (.cells #[.int .i64 y] 2)).heap.size:=by rw [World.size_alloc];omega
    gi_wp2_with (gi_at_builtin;refine wpListIn_append_own _ rfl _ _ 23 rfl (w.heap.size+1) 2 i0 (.int .i64 0) 1 8 Tryz.underlying23 hi hz0 hz1 hz2 rfl (by decide) _ _ _ rfl (hrow.alloc _) ⟨W.heap.size,0,none⟩ 1 1 [.int .i64 y] rfl rfl (cell_one_new _ _ _) (by simp [Value.oneCell']) b1 b2 b3 ?_)
    intro v' w3 hown' hgrow _
    obtain ⟨g',cap',rfl⟩:=ownsRow_succ hown'
    obtain ⟨hv1,hv2,hr2,hk2,hb2⟩:=hv.appended (by decide) hrow (by omega) (by omega) hown' hgrow
    have hc1:=hv1.cell
    have hf1:=hv1.frozen
    have hn3:=((hbn.alloc _).kept hgrow (hbn.not_row (by decide) hrow)).kept (grownBy_setCell' w3 (w.heap.size+1+1) (.slice (some ⟨g',0,none⟩) (pre.length+1) cap')) (by simp;omega)
    gi_wp2
    exact ⟨hk2.from _,⟨hb2,Eq.trans hn3 (Eq.symm hbn)⟩,⟨_,hv2,by simpa using hr2,trivial⟩,hn3,hB.trans (hb2.mono (by omega))⟩
  case done =>
    rintro D ys W hD rfl ⟨⟨v,hv,hrow,_⟩,hbn,hB⟩ hK
    have hc:=hv.cell
    gi_wp2
    refine ⟨by simp,.inl ⟨_,_,rfl,run_takeDeferred hK,?_⟩⟩
    exact ⟨_,results_tmp rfl _ _ _,⟨v,rfl,own_lo (ownsRow_putObj hrow _ hK rfl) (by omega)⟩,hB.trans (belowK_b (w:=w) (Nat.le_refl _) W D _ _ (by simp at hD;omega) hK rfl rfl)⟩
  case stop =>
    rintro D c pre W _ _ h _
    exact h.elim
set_option maxRecDepth 100000 in
set_option maxHeartbeats 4000000 in
theorem parkedInI_any (x:Wo) (a b d e:Option Addr) (p q r s:Nat) (w:World) (h:SegW w w.heap.size x a b d e) (z:NoneW x a b d e p q r s) (m:LenW x) :
    Calls Tryz.prog 7 #[.agg #[.int .i64 x.ch.cap,.int .i64 x.ch.sent,.int .i64 x.ch.got,.int .i64 x.ch.fin,.slice a x.ch.cells.length p,.slice b x.ch.words.length q,.slice d x.hands.length r,.slice e x.deals.length s,.int .i64 x.now]] w fun r' w'=>(∃ v,r'=.returned v∧OInts w' w.heap.size v (parkedIn x))∧Below w.heap.size w w':=by
  cases hk:worldOk x with
  | true =>
    rw [show parkedIn x=parkTo x x.hands.length by simp [parkedIn,hk]]
    exact parkedInI_yes x a b d e p q r s w h z m hk
  | false =>
    rw [show parkedIn x=[] by simp [parkedIn,hk]]
    have HW:=Lib.hid h
    clear h
    go_enter Tryz.func7,Tryz.ntmps7
    go_wp2_with fail
    refine bHit w (by exact zB) fun bb=>?_
    refine (worldOkI_any x a b d e p q r s _ (HW.out.atP bb) m).mono ?_
    rintro _ w1 ⟨rfl,hb1⟩
    rw [hk]
    have z_t:hp w1 (w.heap.size+1+1)=some (.cells #[.slice (some ⟨w.heap.size+1,0,none⟩) 0 0] 23):=(hb1.block (w.heap.size+1+1) (by simp)).trans (heap_at1 w _ _ _)
    have o0:OInts w1 w.heap.size (.slice (some ⟨w.heap.size+1,0,none⟩) 0 0) []:=own_below (own_below (own_made_at _ _ _ _ (w.heap.size+1) (by simp) (by simp)) (belowAlloc _ _)) hb1
    have hB1:Below w.heap.size w w1:=bT bb hb1
    obtain ⟨x_t,f_t,l_t⟩:=bO z_t
    clear bb hb1
    go_wp2
    go_ret
    exact ⟨⟨_,rfl,o0⟩,by exact zB⟩
end Go.Proofs.YtmnpgkcdfielbaaGreat
set_option linter.unusedSimpArgs false
set_option linter.unusedVariables false
namespace Go.Proofs.YtmnpgkcdfielbaaGreat
open Go.RowKit
/-- A list as it lies in a later world. -/
theorem New.segAt {w W:World} {lo n k:Nat} {x:Option Addr} {cap:Nat} {f:Nat→Nat→Value} (h:New w lo (.slice x n cap) n k f) (hb:Below w.heap.size w W):Seg W W.heap.size x n k f:=by
  obtain ⟨a,cap',e,hs⟩:=(h.below hb).seg
  simp at e
  obtain ⟨rfl,rfl⟩:=e
  exact hs
end Go.Proofs.YtmnpgkcdfielbaaGreat
set_option linter.unusedSimpArgs false
set_option linter.unusedVariables false
namespace Go.Proofs.YtmnpgkcdfielbaaGreat
open Go.RowKit
set_option linter.unusedSimpArgs false
attribute [local simp] bx_size
attribute [local go_sem ↓] zeroWo toLWo toLWoL storeWo storeWoC
set_option maxRecDepth 100000 in
set_option maxHeartbeats 8000000 in
theorem exactParkedIn_any (x:Wo) (ans:List Int) (hy:LenW x→ans.length≤1048576) (a b d e:Option Addr) (p1 p2 p3 p4:Nat) (w:World) (h:SegW w w.heap.size x a b d e) (m:x.ch.cells.length≤maxLen∧x.ch.words.length≤maxLen∧x.hands.length≤maxLen∧x.deals.length≤maxLen)
    (hs:LenW x→∀ (a b d e:Option Addr) (p1 p2 p3 p4:Nat) (w:World),SegW w w.heap.size x a b d e→NoneW x a b d e p1 p2 p3 p4→Calls Tryz.prog 5 #[.agg (wvals x (.slice a x.ch.cells.length p1) (.slice b x.ch.words.length p2) (.slice d x.hands.length p3) (.slice e x.deals.length p4))] w fun r' w'=>(∃ v,r'=.returned v∧OInts w' w.heap.size v ans)∧Below w.heap.size w w')
    (hi:LenW x→∀ (a b d e:Option Addr) (p1 p2 p3 p4:Nat) (w:World),SegW w w.heap.size x a b d e→NoneW x a b d e p1 p2 p3 p4→Calls Tryz.prog 7 #[.agg (wvals x (.slice a x.ch.cells.length p1) (.slice b x.ch.words.length p2) (.slice d x.hands.length p3) (.slice e x.deals.length p4))] w fun r' w'=>(∃ v,r'=.returned v∧OInts w' w.heap.size v ans)∧Below w.heap.size w w') :
    Calls Tryz.prog 3 #[.agg (wvals x (.slice a x.ch.cells.length p1) (.slice b x.ch.words.length p2) (.slice d x.hands.length p3) (.slice e x.deals.length p4))] w fun r w'=>r=.returned (.bool true)∧Below w.heap.size w w':=by
  have H:=Lib.hid h
  have M:=Lib.hid m
  have HS:=Lib.hid hs
  have HI:=Lib.hid hi
  clear h m hs hi
  have hsum:=wsum_pos x
  go_enter Tryz.func3,Tryz.ntmps3
  go_wp2_with fail
  refine (szWorld_any x a b d e p1 p2 p3 p4 1048576 _ (by omega) (by omega) M.out.1 M.out.2.1 M.out.2.2.1 M.out.2.2.2).mono ?_
  rintro _ w1 ⟨⟨z,rfl,hz⟩,hbw1⟩
  have hB1:Below w.heap.size w w1:=bT (by exact zB) hbw1
  have hC1:Below w.heap.size w w1:=bT (by exact zB) hbw1
  have hsw1:=hbw1.size;(try (simp at hsw1));have zz:=hQ hbw1 (b:=w.heap.size);(first|(simp [go_sem,z_w,l_w] at zz)|(simp [go_sem] at zz));(try clear x_w f_w);(try clear z_w);have z_w:=zz;clear zz;(try clear l_w);obtain ⟨x_w,f_w,l_w⟩:=bO z_w
  clear hbw1
  by_cases hn:z<0
  · go_wp2
    go_ret
    exact ⟨rfl,hB1⟩
  have m:=hz (by omega)
  clear hz
  have my:=hy m
  clear hy
  replace HS:=Lib.hid (HS.out m)
  replace HI:=Lib.hid (HI.out m)
  go_wp2_with fail
  refine (toWorldB x a b d e p1 p2 p3 p4 _ (((H.out.below (by exact zB)).more (by (try simp) <;> omega))) m).mono ?_
  rintro _ w2 ⟨⟨g1,g2,g3,g4,rfl,G⟩,hbw2⟩
  have hB2:Below w.heap.size w w2:=bT (by exact zB) hbw2
  have hC2:Below w1.heap.size w1 w2:=bT (by exact zB) hbw2
  have hsw2:=hbw2.size;(try (simp at hsw2));have zz:=hQ hbw2 (b:=w.heap.size);(first|(simp [go_sem,z_w,l_w] at zz)|(simp [go_sem] at zz));(try clear x_w f_w);(try clear z_w);have z_w:=zz;clear zz;(try clear l_w);obtain ⟨x_w,f_w,l_w⟩:=bO z_w
  clear hbw2
  go_wp2_with fail
  refine (HS.out _ _ _ _ _ _ _ _ _ ((G.below (Below.refl _ _) (Nat.le_refl _)).seg) (noneS _ _ _ _ _ _ _ _ _)).mono ?_
  rintro _ w3 ⟨⟨vu,rfl,U0⟩,hbw3⟩
  have hB3:Below w.heap.size w w3:=bT (by exact zB) hbw3
  have hC3:Below w2.heap.size w2 w3:=bT (by exact zB) hbw3
  have hsw3:=hbw3.size;(try (simp at hsw3));have zz:=hQ hbw3 (b:=w.heap.size);(first|(simp [go_sem,z_w,l_w] at zz)|(simp [go_sem] at zz));(try clear x_w f_w);(try clear z_w);have z_w:=zz;clear zz;(try clear l_w);obtain ⟨x_w,f_w,l_w⟩:=bO z_w
  clear hbw3
  obtain ⟨ua,uc,rfl,_⟩:=OInts.seg U0
  have UL:=OInts.new U0
  clear U0
  have lU:=New.lo' UL
  go_wp2_with fail
  refine (toWorldB x a b d e p1 p2 p3 p4 _ (((H.out.below (by exact zB)).more (by (try simp) <;> omega))) m).mono ?_
  rintro _ w4 ⟨⟨y1,y2,y3,y4,rfl,Y⟩,hbw4⟩
  have hB4:Below w.heap.size w w4:=bT (by exact zB) hbw4
  have hC4:Below w3.heap.size w3 w4:=bT (by exact zB) hbw4
  have hsw4:=hbw4.size;(try (simp at hsw4));have zz:=hQ hbw4 (b:=w.heap.size);(first|(simp [go_sem,z_w,l_w] at zz)|(simp [go_sem] at zz));(try clear x_w f_w);(try clear z_w);have z_w:=zz;clear zz;(try clear l_w);obtain ⟨x_w,f_w,l_w⟩:=bO z_w
  clear hbw4
  replace UL:=UL.below hC4
  obtain ⟨X0,A0⟩:=Y.new
  clear Y
  go_upto_region 7 with fail
  generalize hw5:World.alloc w4 _=w5
  have z_w4:hp w5 w4.heap.size=some (.cells (wvals x (.slice (some ⟨y1,0,none⟩) x.ch.cells.length x.ch.cells.length) (.slice (some ⟨y2,0,none⟩) x.ch.words.length x.ch.words.length) (.slice (some ⟨y3,0,none⟩) x.hands.length x.hands.length) (.slice (some ⟨y4,0,none⟩) x.deals.length x.deals.length)) 38):=by rw [← hw5];exact heap_alloc_new _ _
  have hC5:Below w4.heap.size w4 w5:=by rw [← hw5];exact belowAlloc _ _
  have hsw5:w5.heap.size=w4.heap.size+1:=by rw [← hw5];exact alloc_sz _ _
  clear hw5
  have hB5:Below w.heap.size w w5:=bT hB4 hC5
  obtain ⟨x_w4,f_w4,l_w4⟩:=bO z_w4
  replace UL:=UL.below hC5
  replace X0:=X0.below hC5
  replace z_w:=hpS z_w hC5
  clear x_w f_w l_w
  obtain ⟨x_w,f_w,l_w⟩:=bO z_w
  go_wp2_with fail
  refine (HI.out _ _ _ _ _ _ _ _ _ (X0.segAt (by exact zB)) (noneS _ _ _ _ _ _ _ _ _)).mono ?_
  rintro _ w6 ⟨⟨vg,rfl,G0⟩,hbw6⟩
  have hB6:Below w.heap.size w w6:=bT (by exact zB) hbw6
  have hC6:Below w5.heap.size w5 w6:=bT (by exact zB) hbw6
  have hsw6:=hbw6.size;(try (simp at hsw6));have zz:=hQ hbw6 (b:=w.heap.size);(first|(simp [go_sem,z_w,l_w] at zz)|(simp [go_sem] at zz));(try clear x_w f_w);(try clear z_w);have z_w:=zz;clear zz;(try clear l_w);obtain ⟨x_w,f_w,l_w⟩:=bO z_w;have zz:=hQ hbw6 (b:=w4.heap.size);(first|(simp [go_sem,z_w4,l_w4] at zz)|(simp [go_sem] at zz));(try clear x_w4 f_w4);(try clear z_w4);have z_w4:=zz;clear zz;(try clear l_w4);obtain ⟨x_w4,f_w4,l_w4⟩:=bO z_w4
  clear hbw6
  replace UL:=UL.below hC6
  replace X0:=X0.below hC6
  obtain ⟨ga,gc,rfl,_⟩:=OInts.seg G0
  have GL:=OInts.new G0
  clear G0
  have lG:=New.lo' GL
  go_wp2_with fail
  refine (eqInt64S_any ans _ _ _ _ _ (GL.segAt (by exact zB)) (UL.segAt (by exact zB)) my).mono ?_
  rintro _ w7 ⟨rfl,hbw7⟩
  have hB7:Below w.heap.size w w7:=bT (by exact zB) hbw7
  have hC7:Below w6.heap.size w6 w7:=bT (by exact zB) hbw7
  have hsw7:=hbw7.size;(try (simp at hsw7));have zz:=hQ hbw7 (b:=w.heap.size);(first|(simp [go_sem,z_w,l_w] at zz)|(simp [go_sem] at zz));(try clear x_w f_w);(try clear z_w);have z_w:=zz;clear zz;(try clear l_w);obtain ⟨x_w,f_w,l_w⟩:=bO z_w;have zz:=hQ hbw7 (b:=w4.heap.size);(first|(simp [go_sem,z_w4,l_w4] at zz)|(simp [go_sem] at zz));(try clear x_w4 f_w4);(try clear z_w4);have z_w4:=zz;clear zz;(try clear l_w4);obtain ⟨x_w4,f_w4,l_w4⟩:=bO z_w4
  clear hbw7
  replace UL:=UL.below hC7
  replace X0:=X0.below hC7
  replace GL:=GL.below hC7
  go_upto_region 10 with fail
  refine wp_region_inv [[],[],[1],[0,1,2],[0,1,2,3]] [27,28,29,30,31] (fun l s wx=>(Below w7.heap.size w7 wx)∧(l 0=true→s 27=.agg (wvals x (.slice (some ⟨y1,0,none⟩) x.ch.cells.length x.ch.cells.length) (.slice (some ⟨y2,0,none⟩) x.ch.words.length x.ch.words.length) (.slice (some ⟨y3,0,none⟩) x.hands.length x.hands.length) (.slice (some ⟨y4,0,none⟩) x.deals.length x.deals.length)))∧(l 1=true→s 28=.agg (wvals x (.slice a x.ch.cells.length p1) (.slice b x.ch.words.length p2) (.slice d x.hands.length p3) (.slice e x.deals.length p4)))∧(l 2=true→∃ g1 g2 g3 g4:Nat,s 29=.agg (wvals x (.slice (some ⟨g1,0,none⟩) x.ch.cells.length x.ch.cells.length) (.slice (some ⟨g2,0,none⟩) x.ch.words.length x.ch.words.length) (.slice (some ⟨g3,0,none⟩) x.hands.length x.hands.length) (.slice (some ⟨g4,0,none⟩) x.deals.length x.deals.length))∧MadeW wx w7.heap.size x g1 g2 g3 g4)∧(l 3=true→s 30=.bool true)∧(l 4=true→s 31=.bool false)) (by kernel_rfl) (by kernel_rfl) (by kernel_rfl) (fun s=>by (simp only [fill,fillA,List.setIfInBounds_toArray,List.set_cons_zero,List.set_cons_succ];rfl)) (fun s=>⟨(Below.refl _ _).drew,fun h=>absurd h Bool.false_ne_true,fun h=>absurd h Bool.false_ne_true,fun h=>absurd h Bool.false_ne_true,fun h=>absurd h Bool.false_ne_true,fun h=>absurd h Bool.false_ne_true⟩) ?_ ?_
  refine ⟨?_,?_,?_,?_,?_,trivial⟩;rotate_left 5
  · intro l s w8 hall hf
    have ec:=hf.2.2.2.2.2 (hall 4 rfl)
    have hC8:Below w7.heap.size w7 w8:=hf.1
    simp only [ec]
    clear ec hf hall
    have hB8:Below w.heap.size w w8:=bT hB7 hC8
    have hsw8:=hC8.size
    replace UL:=UL.below hC8
    replace X0:=X0.below hC8
    replace GL:=GL.below hC8
    replace z_w:=hpS z_w hC8
    clear x_w f_w l_w
    obtain ⟨x_w,f_w,l_w⟩:=bO z_w
    replace z_w4:=hpS z_w4 hC8
    clear x_w4 f_w4 l_w4
    obtain ⟨x_w4,f_w4,l_w4⟩:=bO z_w4
    go_wp2_with fail
    refine (markWorld_any x _ _ _ _ _ _ _ _ _ _ _ (X0.below (by exact zB)) A0 m).mono ?_
    rintro _ w9 ⟨rfl,_,hP⟩
    replace hP:OnlP _ w8 w9:=OnlP.trans (OnlP.of_below (by exact zB)) hP
    have hO:OnlR w3.heap.size w4.heap.size w8 w9:=hP.toR fun i o=>by have:=NewW.ofW (w':=w) X0 i o;omega
    have hsw9:=hO.2.2.2.1
    have hB9:Below w.heap.size w w9:=OnlR.below hB8 hO (by omega) (by omega)
    replace UL:=UL.keptR hO (fun i e=>by have:=lU i e;omega)
    replace GL:=GL.keptR hO (fun i e=>by have:=lG i e;omega)
    replace z_w:=hO.hpk z_w (by omega)
    clear x_w f_w l_w
    obtain ⟨x_w,f_w,l_w⟩:=bO z_w
    replace z_w4:=hO.hpk z_w4 (by omega)
    clear x_w4 f_w4 l_w4
    obtain ⟨x_w4,f_w4,l_w4⟩:=bO z_w4
    clear X0 hO hP
    go_wp2_with fail
    refine (eqInt64S_any ans _ _ _ _ _ (GL.segAt (by exact zB)) (UL.segAt (by exact zB)) my).mono ?_
    rintro _ w10 ⟨rfl,hbw10⟩
    have hB10:Below w.heap.size w w10:=bT (by exact zB) hbw10
    have hC10:Below w9.heap.size w9 w10:=bT (by exact zB) hbw10
    have hsw10:=hbw10.size;(try (simp at hsw10));have zz:=hQ hbw10 (b:=w.heap.size);(first|(simp [go_sem,z_w,l_w] at zz)|(simp [go_sem] at zz));(try clear x_w f_w);(try clear z_w);have z_w:=zz;clear zz;(try clear l_w);obtain ⟨x_w,f_w,l_w⟩:=bO z_w;have zz:=hQ hbw10 (b:=w4.heap.size);(first|(simp [go_sem,z_w4,l_w4] at zz)|(simp [go_sem] at zz));(try clear x_w4 f_w4);(try clear z_w4);have z_w4:=zz;clear zz;(try clear l_w4);obtain ⟨x_w4,f_w4,l_w4⟩:=bO z_w4
    clear hbw10
    replace UL:=UL.below hC10
    replace GL:=GL.below hC10
    go_wp2_with fail
    refine (markInt64S_any ans.length (intF ans) _ _ 1 _ (GL.below (by exact zB)) (by omega) (by omega) my).mono ?_
    rintro _ w11 ⟨rfl,MG,hg⟩
    have hO:Onl (Value.slice ga ans.length gc).ownBlock none w10 w11:=onlT (onlB (by exact zB)) (onl1 hg)
    clear hg
    have hsw11:=hO.2.2.2.1
    have eG:∀ i,(Value.slice ga ans.length gc).ownBlock=some i→w5.heap.size≤i:=fun i e=>(lG i ((ownBlock_len _ _ _).symm.trans e)).1
    have hB11:Below w.heap.size w w11:=bOnl hB10 hO (fun i e=>by have:=eG i e;omega) (fun i e=>by cases e)
    replace UL:=UL.keptO hO (fun i e k=>by have:=eG i k;have:=lU i ((ownBlock_len _ _ _).symm.trans e);omega) (fun i e k=>by cases k)
    replace z_w:=(onlHp hO l_w (fun e=>by have:=eG _ e.symm;omega) (fun e=>by cases e)).trans z_w
    clear x_w f_w l_w
    obtain ⟨x_w,f_w,l_w⟩:=bO z_w
    replace z_w4:=(onlHp hO l_w4 (fun e=>by have:=eG _ e.symm;omega) (fun e=>by cases e)).trans z_w4
    clear x_w4 f_w4 l_w4
    obtain ⟨x_w4,f_w4,l_w4⟩:=bO z_w4
    clear GL hO eG
    have GL:=MG
    clear MG
    go_wp2_with fail
    refine (heldInt64S_any ans.length _ _ 1 _ (GL.below (by exact zB)) (by omega) (by omega) my).mono ?_
    rintro _ w12 ⟨rfl,hbw12⟩
    have hB12:Below w.heap.size w w12:=bT (by exact zB) hbw12
    have hC12:Below w11.heap.size w11 w12:=bT (by exact zB) hbw12
    have hsw12:=hbw12.size;(try (simp at hsw12));have zz:=hQ hbw12 (b:=w.heap.size);(first|(simp [go_sem,z_w,l_w] at zz)|(simp [go_sem] at zz));(try clear x_w f_w);(try clear z_w);have z_w:=zz;clear zz;(try clear l_w);obtain ⟨x_w,f_w,l_w⟩:=bO z_w;have zz:=hQ hbw12 (b:=w4.heap.size);(first|(simp [go_sem,z_w4,l_w4] at zz)|(simp [go_sem] at zz));(try clear x_w4 f_w4);(try clear z_w4);have z_w4:=zz;clear zz;(try clear l_w4);obtain ⟨x_w4,f_w4,l_w4⟩:=bO z_w4
    clear hbw12
    replace UL:=UL.below hC12
    replace GL:=GL.below hC12
    go_wp2_with fail
    refine (toWorldB x a b d e p1 p2 p3 p4 _ (((H.out.below (by exact zB)).more (by (try simp) <;> omega))) m).mono ?_
    rintro _ w13 ⟨⟨q1,q2,q3,q4,rfl,Q⟩,hbw13⟩
    have hB13:Below w.heap.size w w13:=bT (by exact zB) hbw13
    have hC13:Below w12.heap.size w12 w13:=bT (by exact zB) hbw13
    have hsw13:=hbw13.size;(try (simp at hsw13));have zz:=hQ hbw13 (b:=w.heap.size);(first|(simp [go_sem,z_w,l_w] at zz)|(simp [go_sem] at zz));(try clear x_w f_w);(try clear z_w);have z_w:=zz;clear zz;(try clear l_w);obtain ⟨x_w,f_w,l_w⟩:=bO z_w;have zz:=hQ hbw13 (b:=w4.heap.size);(first|(simp [go_sem,z_w4,l_w4] at zz)|(simp [go_sem] at zz));(try clear x_w4 f_w4);(try clear z_w4);have z_w4:=zz;clear zz;(try clear l_w4);obtain ⟨x_w4,f_w4,l_w4⟩:=bO z_w4
    clear hbw13
    replace UL:=UL.below hC13
    replace GL:=GL.below hC13
    go_wp2_with fail
    refine (HI.out _ _ _ _ _ _ _ _ _ ((Q.below (Below.refl _ _) (Nat.le_refl _)).seg) (noneS _ _ _ _ _ _ _ _ _)).mono ?_
    rintro _ w14 ⟨⟨vh,rfl,H0⟩,hbw14⟩
    have hB14:Below w.heap.size w w14:=bT (by exact zB) hbw14
    have hC14:Below w13.heap.size w13 w14:=bT (by exact zB) hbw14
    have hsw14:=hbw14.size;(try (simp at hsw14));have zz:=hQ hbw14 (b:=w.heap.size);(first|(simp [go_sem,z_w,l_w] at zz)|(simp [go_sem] at zz));(try clear x_w f_w);(try clear z_w);have z_w:=zz;clear zz;(try clear l_w);obtain ⟨x_w,f_w,l_w⟩:=bO z_w;have zz:=hQ hbw14 (b:=w4.heap.size);(first|(simp [go_sem,z_w4,l_w4] at zz)|(simp [go_sem] at zz));(try clear x_w4 f_w4);(try clear z_w4);have z_w4:=zz;clear zz;(try clear l_w4);obtain ⟨x_w4,f_w4,l_w4⟩:=bO z_w4
    clear hbw14
    replace UL:=UL.below hC14
    replace GL:=GL.below hC14
    obtain ⟨ha,hc,rfl,_⟩:=OInts.seg H0
    have HL:=OInts.new H0
    clear H0
    have lH:=New.lo' HL
    go_wp2_with fail
    refine (eqInt64S_any ans _ _ _ _ _ (HL.segAt (by exact zB)) (UL.segAt (by exact zB)) my).mono ?_
    rintro _ w15 ⟨rfl,hbw15⟩
    have hB15:Below w.heap.size w w15:=bT (by exact zB) hbw15
    have hC15:Below w14.heap.size w14 w15:=bT (by exact zB) hbw15
    have hsw15:=hbw15.size;(try (simp at hsw15));have zz:=hQ hbw15 (b:=w.heap.size);(first|(simp [go_sem,z_w,l_w] at zz)|(simp [go_sem] at zz));(try clear x_w f_w);(try clear z_w);have z_w:=zz;clear zz;(try clear l_w);obtain ⟨x_w,f_w,l_w⟩:=bO z_w;have zz:=hQ hbw15 (b:=w4.heap.size);(first|(simp [go_sem,z_w4,l_w4] at zz)|(simp [go_sem] at zz));(try clear x_w4 f_w4);(try clear z_w4);have z_w4:=zz;clear zz;(try clear l_w4);obtain ⟨x_w4,f_w4,l_w4⟩:=bO z_w4
    clear hbw15
    replace UL:=UL.below hC15
    replace GL:=GL.below hC15
    replace HL:=HL.below hC15
    go_wp2_with fail
    refine (heldInt64S_any ans.length _ _ 1 _ (GL.below (by exact zB)) (by omega) (by omega) my).mono ?_
    rintro _ w16 ⟨rfl,hbw16⟩
    have hB16:Below w.heap.size w w16:=bT (by exact zB) hbw16
    have hC16:Below w15.heap.size w15 w16:=bT (by exact zB) hbw16
    have hsw16:=hbw16.size;(try (simp at hsw16));have zz:=hQ hbw16 (b:=w.heap.size);(first|(simp [go_sem,z_w,l_w] at zz)|(simp [go_sem] at zz));(try clear x_w f_w);(try clear z_w);have z_w:=zz;clear zz;(try clear l_w);obtain ⟨x_w,f_w,l_w⟩:=bO z_w;have zz:=hQ hbw16 (b:=w4.heap.size);(first|(simp [go_sem,z_w4,l_w4] at zz)|(simp [go_sem] at zz));(try clear x_w4 f_w4);(try clear z_w4);have z_w4:=zz;clear zz;(try clear l_w4);obtain ⟨x_w4,f_w4,l_w4⟩:=bO z_w4
    clear hbw16
    replace UL:=UL.below hC16
    replace GL:=GL.below hC16
    replace HL:=HL.below hC16
    go_wp2
    go_ret
    exact ⟨rfl,hB16⟩
  · intro l s wx hl hd hn hf0 K hK
    have hf:=Lib.hid hf0
    clear hf0
    have hB:=hf.out.1
    have z:=hpS z_w4 hB
    go_simp
    refine hK.out (upd s 27 (.agg (wvals x (.slice (some ⟨y1,0,none⟩) x.ch.cells.length x.ch.cells.length) (.slice (some ⟨y2,0,none⟩) x.ch.words.length x.ch.words.length) (.slice (some ⟨y3,0,none⟩) x.hands.length x.hands.length) (.slice (some ⟨y4,0,none⟩) x.deals.length x.deals.length)))) _ _ (by simp [upd_at] <;> rfl) ⟨hf.out.1,fun _=>rfl,fun h=>(hf.out.2.2.1 h),fun h=>(hf.out.2.2.2.1 h),fun h=>absurd h (by rw [show upd l 0 true 3=l 3 from rfl,hn 3 rfl];exact Bool.false_ne_true),fun h=>absurd h (by rw [show upd l 0 true 4=l 4 from rfl,hn 4 rfl];exact Bool.false_ne_true)⟩
  · intro l s wx hl hd hn hf0 K hK
    have hf:=Lib.hid hf0
    clear hf0
    have hB:=hf.out.1
    have z:=hpS z_w hB
    go_simp
    refine hK.out (upd s 28 (.agg (wvals x (.slice a x.ch.cells.length p1) (.slice b x.ch.words.length p2) (.slice d x.hands.length p3) (.slice e x.deals.length p4)))) _ _ (by simp [upd_at] <;> rfl) ⟨hf.out.1,fun h=>(hf.out.2.1 h),fun _=>rfl,fun h=>absurd h (by rw [show upd l 1 true 2=l 2 from rfl,hn 2 rfl];exact Bool.false_ne_true),fun h=>absurd h (by rw [show upd l 1 true 3=l 3 from rfl,hn 3 rfl];exact Bool.false_ne_true),fun h=>absurd h (by rw [show upd l 1 true 4=l 4 from rfl,hn 4 rfl];exact Bool.false_ne_true)⟩
  · intro l s wx hl hd hn hf0 K hK
    have hf:=Lib.hid hf0
    clear hf0
    have e1:=(hf.out.2.2.1 (hd 1 rfl))
    have hB:=hf.out.1
    go_simp
    go_at_call 6
    refine (toWorldB x a b d e p1 p2 p3 p4 _ (((H.out.below (bT hB7 hB))).more (bT hB7 hB).size) m).mono ?_
    rintro _ wy ⟨⟨g1,g2,g3,g4,rfl,G⟩,hE⟩
    refine hK.out (upd s 29 (.agg (wvals x (.slice (some ⟨g1,0,none⟩) x.ch.cells.length x.ch.cells.length) (.slice (some ⟨g2,0,none⟩) x.ch.words.length x.ch.words.length) (.slice (some ⟨g3,0,none⟩) x.hands.length x.hands.length) (.slice (some ⟨g4,0,none⟩) x.deals.length x.deals.length)))) _ _ (by simp [upd_at,e1] <;> rfl) ⟨bT hf.out.1 hE,fun h=>(hf.out.2.1 h),fun h=>(hf.out.2.2.1 h),fun _=>⟨g1,g2,g3,g4,rfl,MadeW.lo' G hB.size⟩,fun h=>absurd h (by rw [show upd l 2 true 3=l 3 from rfl,hn 3 rfl];exact Bool.false_ne_true),fun h=>absurd h (by rw [show upd l 2 true 4=l 4 from rfl,hn 4 rfl];exact Bool.false_ne_true)⟩
  · intro l s wx hl hd hn hf0 K hK
    have hf:=Lib.hid hf0
    clear hf0
    have e0:=(hf.out.2.1 (hd 0 rfl))
    have hB:=hf.out.1
    obtain ⟨g1,g2,g3,g4,e2,G⟩:=(hf.out.2.2.2.1 (hd 2 rfl))
    go_simp
    go_at_call 9
    refine (eqWorld_any x _ _ _ _ _ _ _ _ _ _ _ _ _ _ _ _ _ (X0.segAt hB) (MadeW.seg G) m).mono ?_
    rintro _ wy ⟨rfl,hE⟩
    refine hK.out (upd s 30 (.bool true)) _ _ (by simp [upd_at,e0,e2] <;> rfl) ⟨bT hf.out.1 hE,fun h=>(hf.out.2.1 h),fun h=>(hf.out.2.2.1 h),fun h=>(let ⟨g1,g2,g3,g4,e,R⟩:=(hf.out.2.2.2.1 h);⟨g1,g2,g3,g4,e,MadeW.belowS R hE⟩),fun _=>rfl,fun h=>absurd h (by rw [show upd l 3 true 4=l 4 from rfl,hn 4 rfl];exact Bool.false_ne_true)⟩
  · intro l s wx hl hd hn hf0 K hK
    have hf:=Lib.hid hf0
    clear hf0
    have e3:=(hf.out.2.2.2.2.1 (hd 3 rfl))
    have hB:=hf.out.1
    go_simp
    refine hK.out (upd s 31 (.bool false)) _ _ (by simp [upd_at,e3] <;> rfl) ⟨hf.out.1,fun h=>(hf.out.2.1 h),fun h=>(hf.out.2.2.1 h),fun h=>(hf.out.2.2.2.1 h),fun h=>(hf.out.2.2.2.2.1 h),fun _=>rfl⟩
end Go.Proofs.YtmnpgkcdfielbaaGreat
set_option maxRecDepth 100000
set_option linter.unusedSimpArgs false
set_option linter.unusedVariables false
namespace Go.Proofs.YtmnpgkcdfielbaaGreat
open Go.ChangeShapes Go.WideShapes Go.ChangeAt Go.RowKit Go.Deep
theorem own:ownKnob Tryz.prog.godebug=none:=by kernel_rfl
theorem laidOut:laidOutB Tryz.prog=true:=by kernel_rfl
section
variable {H:Type} {enc:TypeId × Value→H} {P:Program} {w:World} {spare:Nat→Bool} {held:Bool}
/-- A slice of elements that can be read lies in memory as said. -/
theorem dSlice {α:Type} (k:Nat) (val:α→Nat→Value) (Q:α→Prop) (d0:α) {t e:TypeId} (ht:P.underlying t=some (.slice e)) (hk:P.cellsOf e=k) (hk0:0<k)
    (dec:∀ (fuel:Nat) (cs:List Value) (x:DataW H × List MemPlace),DataW.trod enc P w 0 spare held fuel e cs=some x→∃ c:α,Q c∧∀ j,j<k→cs[j]?=some (val c j))
    {fuel:Nat} {cs:List Value} {x:DataW H × List MemPlace} (h:DataW.trod enc P w 0 spare held fuel t cs=some x) :
    ∃ (a:Option Addr) (l:List α) (cap:Nat),cs=[.slice a l.length cap]∧l.length≤cap∧cap≤maxLen∧(∀ c ∈ l,Q c)∧Seg w w.heap.size a l.length k (fun i j=>val (l.getD i d0) j):=by
  rcases open_slice ht h with ⟨hcs,_⟩|⟨ad,len,cap,m,n,D,Pl,hcs,_,hl,hm,hmm,_,hi⟩
  · exact ⟨none,[],0,hcs,Nat.le_refl _,Nat.zero_le _,by simp,.inl rfl⟩
  · have hlm:len≤m:=by rw [hmm];split <;> omega
    have hx:∀ i:Nat,∃ c:α,i<len→(Q c∧∀ j,j<k→w.cell? (ad.add (i*k+j))=some (val c j)):=by
      intro i
      by_cases hlt:i<len
      · obtain ⟨cs',hc,htr⟩:=hi i (by omega)
        rw [hk] at hc
        obtain ⟨_,_,hat⟩:=World.cells?_some hc
        obtain ⟨c,hq,hv⟩:=dec _ _ _ htr
        refine ⟨c,fun _=>⟨hq,fun j hj=>?_⟩⟩
        rw [← Go.Deep.add_add,hat j hj,hv j hj]
      · exact ⟨d0,fun h=>absurd h hlt⟩
    obtain ⟨g,hg⟩:=Classical.axiomOfChoice hx
    refine ⟨some ad,(List.range len).map g,cap,by simpa using hcs,by simpa using hl,hm,?_,?_⟩
    · intro c hc
      obtain ⟨i,hi',rfl⟩:=List.mem_map.1 hc
      exact (hg i (List.mem_range.1 hi')).1
    · by_cases h0:len=0
      · exact .inl (by simpa using h0)
      · obtain ⟨b,off,spot⟩:=ad
        have hz:=(hg 0 (by omega)).2 0 hk0
        have hspot:spot=none:=by simpa [Addr.add] using World.cell?_spot hz
        subst hspot
        refine .inr ⟨b,off,rfl,?_,fun i j hi' hj=>?_⟩
        · have:=block_lt_of_cell hz
          simpa [Addr.add] using this
        · have hlt:i<len:=by simpa using hi'
          have:=(hg i hlt).2 j hj
          rw [add_plain,← Nat.add_assoc] at this
          rw [this]
          simp [List.getD,hlt]
end
/-- Every field is one int64, in its place. -/
def allInts (P:Program) (fs:Array Field):Bool:=fs.toList.zipIdx.all fun (f,i)=>decide (f.offset=i) && decide (P.cellsOf f.type=1) && (match P.underlying f.type with|some (.int .i64)=>true|_=>false)
theorem allInts_at {P:Program} {fs:Array Field} (h:allInts P fs=true) {j:Nat} {f:Field} (hj:fs[j]?=some f):f.offset=j∧P.cellsOf f.type=1∧P.underlying f.type=some (.int .i64):=by
  have hm:(f,j) ∈ fs.toList.zipIdx:=by
    rw [List.mem_zipIdx_iff_getElem?]
    simpa using hj
  have:=List.all_eq_true.1 h _ hm
  simp only [Bool.and_eq_true,decide_eq_true_eq] at this
  refine ⟨this.1.1,this.1.2,?_⟩
  have h2:=this.2
  split at h2
  · assumption
  · cases h2
section
variable {H:Type} {enc:TypeId × Value→H} {P:Program} {w:World} {spare:Nat→Bool} {held:Bool}
theorem dInts {t:TypeId} {fs:Array Field} (ht:P.underlying t=some (.struct fs)) (hall:allInts P fs=true) (hC:P.cellsOf t=fs.size)
    {fuel:Nat} {cs:List Value} {x:DataW H × List MemPlace} (h:DataW.trod enc P w 0 spare held fuel t cs=some x) :
    cs.length=fs.size∧∃ g:Nat→Int,∀ j,j<fs.size→(cs[j]?=some (.int .i64 (g j))∧(Lit.int .i64 (g j)).wf=true):=by
  obtain ⟨xs,n,_,_,hlen,hxl,hf⟩:=DataW.trod_struct ht h
  have hx:∀ j:Nat,∃ a:Int,j<fs.size→(cs[j]?=some (.int .i64 a)∧(Lit.int .i64 a).wf=true):=by
    intro j
    by_cases hj:j<fs.size
    · obtain ⟨h1,h2,h3⟩:=allInts_at hall (Array.getElem?_eq_getElem hj)
      have g:=hf j _ (Array.getElem?_eq_getElem hj)
      rw [h1,h2,List.getElem?_eq_getElem (by omega)] at g
      obtain ⟨a,ea,_,wa⟩:=DataW.trod_int h3 g
      refine ⟨a,fun _=>⟨?_,wa⟩⟩
      have e:=congrArg (fun l:List Value=>l[0]?) ea
      simpa [List.getElem?_take,List.getElem?_drop] using e
    · exact ⟨0,fun h=>absurd h hj⟩
  obtain ⟨g,hg⟩:=Classical.axiomOfChoice hx
  exact ⟨hlen.trans hC,g,hg⟩
end
def C3.wf (c:C3):Prop:=(Lit.int .i64 c.s).wf=true∧(Lit.int .i64 c.e).wf=true∧(Lit.int .i64 c.t).wf=true
section
variable {H:Type} {enc:TypeId × Value→H} {w:World} {spare:Nat→Bool} {held:Bool}
theorem dCell (fuel:Nat) (cs:List Value) (x:DataW H × List MemPlace) (h:DataW.trod enc Tryz.prog w 0 spare held fuel 98 cs=some x) :
    ∃ c:C3,c.wf∧∀ j,j<3→cs[j]?=some (c.val j):=by
  obtain ⟨_,g,hg⟩:=dInts Tryz.underlying98 (by kernel_rfl) (by kernel_rfl) h
  refine ⟨⟨g 0,g 1,g 2⟩,⟨(hg 0 (by decide)).2,(hg 1 (by decide)).2,(hg 2 (by decide)).2⟩,fun j hj=>?_⟩
  have:j=0∨j=1∨j=2:=by omega
  rcases this with rfl|rfl|rfl
  · exact (hg 0 (by decide)).1
  · exact (hg 1 (by decide)).1
  · exact (hg 2 (by decide)).1
end
end Go.Proofs.YtmnpgkcdfielbaaGreat
