/-
  Whether the program takes a hand for parked; lists of at most as much as memory can hold, that lie in memory.
-/
import Derived.Test.YtffhjmepfojhnaaGreatR23
import Derived.Test.YtffhjmepfojhnaaGreatR34
import Derived.Test.YtffhjmepfojhnaaGreatR31
import Derived.Test.YtffhjmepfojhnaaGreatR33
import Derived.RangeFuncNested
import Derived.RangeFuncBound
import Derived.RangeFuncCalls
import Derived.RangeFuncLeaves
import Derived.RangeFuncBox
import Derived.Shelf.Abstract
import Derived.Shelf.RegionOpen
import Derived.WalkKit
import Derived.OwnWalkIn
import Derived.TacticsInMore
import Derived.LoopNIn
import Derived.LoopIn
import Derived.Maps.AppendAt
import Derived.Test.YtffhjmepfojhnaaGreatR09
import Derived.Test.YtffhjmepfojhnaaGreatR24
import Derived.Test.YtffhjmepfojhnaaGreatR04
set_option maxRecDepth 100000
set_option maxHeartbeats 4000000
set_option linter.unusedSimpArgs false
set_option linter.unusedVariables false
namespace Go.Proofs.YtffhjmepfojhnaaGreat
section
open Go.RowKit
attribute [local simp] aC
attribute [local go_sem ↓] aB aU aL bB aM bC aG aN au aF
def gZ (c:Ch) (h:Ha):Bool:=h.pos == 23 && eZ (iH c h)
theorem qP (c:Ch) (h:Ha) (a b:Option Addr) (p q:Nat) (w:World) (h1:eY w w.heap.size a c.cells) (z1:a=none→p=0) (h2:eQ w w.heap.size b c.words) (z2:b=none→q=0) (l1:c.cells.length≤maxLen) (l2:c.words.length≤maxLen) :
  Calls Tryz.prog 107 #[.agg (af c (.slice a c.cells.length p) (.slice b c.words.length q)),.agg (aa h)] w fun r w'=>r=.returned (.bool (gZ c h))∧Below w.heap.size w w':=by
 have HST:=Lib.hid fun (W:World) (hb:Below w.heap.size w W)=>Eg c h a b p q W ((h1.below hb).more hb.size) z1 ((h2.below hb).more hb.size) z2 l1 l2
 obtain ⟨tb,htb⟩:∃ tb,Hid (tb=eZ (iH c h)):=⟨_,rfl⟩
 rw [← htb.out] at HST
 clear h1 h2 l1 l2
 cases hp0:(h.pos == 23) with
 | false =>
  have e:gZ c h=false:=by unfold gZ;rw [hp0];rfl
  rw [e]
  clear e htb HST
  go_enter Tryz.func107,Tryz.ntmps107
  go_wp2
  go_ret
  exact ⟨rfl,by exact zB⟩
 | true =>
  have e:gZ c h=tb:=by unfold gZ;rw [hp0,htb.out];rfl
  rw [e]
  clear e htb
  go_enter Tryz.func107,Tryz.ntmps107
  go_wp2_with (go_at_call 158;refine ax w zB fun bb=>?_;refine (HST.out _ bb).mono ?_;rintro _ w1 ⟨rfl,hb1⟩)
  go_ret
  exact ⟨rfl,bT bb hb1⟩
end
section
open Go.RowKit
attribute [local simp] aC
attribute [local go_sem ↓] aB aL aM fe au
attribute [local go_sem] eB
theorem qj (x:Wo):∀ k,(fU x k).length≤k
 | 0=>Nat.le_refl _
 | k+1=>by
  have:=qj x k
  unfold fU
  split
  ·simp;omega
  ·omega
theorem uY {x:Wo} {k:Nat} (h:jR x k=true):fU x (k+1)=fU x k ++ [(k:Int)]:=by simp [fU,h]
theorem Iz {x:Wo} {k:Nat} (h:jR x k=false):fU x (k+1)=fU x k:=by simp [fU,h]
end
section
open Go.RowKit Go.Shelf
attribute [local go_sem] Oper.semAt_some
attribute [local simp] aC
attribute [local go_sem ↓] aB aU aL bB aM bC aG aN au aF
def sD (n B:Nat) (W W':World):Prop:=Below n W W'∧hp W' B=hp W B
theorem qQ {n B:Nat} {X Y Z:World} (h:sD n B X Y) (k:sD n B Y Z):sD n B X Z:=⟨h.1.trans k.1,k.2.trans h.2⟩
theorem abide {J:List Int→World→Prop} {B:Nat} {t:List Int} {X Y:World} (hJ:AbidesFrom B J) (h:J t X) (hb:Below X.heap.size X Y):J t Y:=hJ t X Y none h ⟨hb.os,hb.tape,hb.output,hb.size,fun k hk _=>hb.block k hk⟩ (fun _ e=>nomatch e)
theorem O5 {f:Ending} {A B:Prop} (h:(f=.returned (.bool true)∧A)∨(f=.returned (.bool false)∧B)):∃ b:Bool,f=.returned (.bool b)∧Hid ((b=true∧A)∨(b=false∧B)):=by
 rcases h with ⟨rfl,h⟩|⟨rfl,h⟩
 ·exact ⟨true,rfl,.inl ⟨rfl,h⟩⟩
 ·exact ⟨false,rfl,.inr ⟨rfl,h⟩⟩
theorem EH (n:Nat) (hn:1≤n) (l Bn Bw n0:Nat) (x:Wo) (a b d e:Option Addr) (p q r s:Nat) (J Jx:List Int→World→Prop) (W:World) (m:lJ x) (hlen:1≤x.hands.length)
  (hY:∀ pre y X,J pre X→pre.length<x.hands.length→YieldAt Fence.wide (n - 1) Tryz.prog l #[.int .i64 y] X fun f X'=>(f=.returned (.bool true)∧J (pre ++ [y]) X'∧sD n0 Bn X X')∨(f=.returned (.bool false)∧Jx (pre ++ [y]) X'))
  (hJ:AbidesFrom W.heap.size J) (Pm:hp W Bn=some (.cells #[.pointer (some ⟨Bw,0,none⟩)] 82)) (hBw:hp W Bw=some (.cells (gK x (.slice a x.ch.cells.length p) (.slice b x.ch.words.length q) (.slice d x.hands.length r) (.slice e x.deals.length s)) 35)) (hlo:Bw<n0) (hn0:n0≤W.heap.size) (S:iG W n0 x a b d e) (N:kT x a b d e p q r s) (h0:J [] W) :
  CallsIn Fence.wide n Tryz.prog 106 #[.func (.yield l) #[] #[],.pointer (some ⟨Bn,0,none⟩)] W fun f X=>(∃ v,f=.returned v)∧((∃ ys,ys=fU x x.hands.length∧J ys X)∨(∃ pre,(∃ k,k≤x.hands.length∧pre=fU x k)∧Jx pre X)):=by
 obtain ⟨s1,s2,s3,s4⟩:=S
 obtain ⟨n1,n2,n3,n4⟩:=N
 obtain ⟨b3,o3,rfl,hb3,hc3⟩:∃ b o,d=some ⟨b,o,none⟩∧b<n0∧Hid (∀ i j,i<x.hands.length→j<14→W.cell? ⟨b,o+i*14+j,none⟩=some (fI x.hands i j)):=by
  rcases s3 with h|h
  ·omega
  ·exact h
 have X8:Bn<W.heap.size:=(bO Pm).2.2
 have Ld:∀ (i:Nat) (X:World),i<x.hands.length→Below n0 W X→(nP (.pointer (some ⟨b3,o3+i*14,none⟩))).run Tryz.prog X=.ok (.agg (aa (dH x i))) X:=fun i X hi hX=>nu _ fun j hj=>by rw [show (aa (dH x i)).getD j (.int .i64 0)=fI x.hands i j by simp [fI,dH],← hc3.out i j hi hj];exact World.cell?_of_block (hX.block b3 hb3)
 refine callsIn_of_wp Tryz.func106 rfl trivial ?_ rfl
 simp only [Tryz.ntmps106,List.size_toArray,List.length_cons,List.length_nil,Nat.reduceAdd,Nat.reduceSub,Array.replicate_succ,Array.replicate_zero,List.push_toArray,List.append_toArray,List.nil_append,List.cons_append]
 have X9:W.cell? ⟨Bn,0,none⟩=some (.pointer (some ⟨Bw,0,none⟩)):=(bO Pm).1 0
 have dV:W.cell? ⟨Bw,6,none⟩=some (.slice (some ⟨b3,o3,none⟩) x.hands.length r):=(bO hBw).1 6
 gi_wp2
 gi_loopw [10] (fun i wr=>∃ k:Nat,k≤x.hands.length∧i=.int .i64 k∧J (fU x k) wr∧sD n0 Bn W wr∧W.heap.size≤wr.heap.size)
  (fun i _=>x.hands.length - (intOf i).toNat)
 case atStart=>exact ⟨0,Nat.zero_le _,rfl,h0,⟨Below.refl _ _,rfl⟩,Nat.le_refl _⟩
 case round =>
  obtain ⟨k,hk,rfl,hJs,O6,hsz⟩:=hrel
  by_cases hlt:k<x.hands.length
  ·obtain ⟨h0,hh⟩:∃ h0,Hid (h0=dH x k):=⟨_,rfl⟩
   have hL:=Ld k wr hlt O6.1
   rw [← hh.out] at hL
   have hi0:(0:Int)≤(k:Int):=by omega
   have hi1:(k:Int)<(x.hands.length:Int):=by omega
   have Qc:wr.cell? ⟨Bn,0,none⟩=some (.pointer (some ⟨Bw,0,none⟩)):=(bO (O6.2.trans Pm)).1 0
   have WG:=(O6.1.block Bw hlo).trans hBw
   have hwk:wrap64 ((k:Int)+1)=((k+1:Nat):Int):=by have:=m.2.2.1;unfold wrap64;omega
   have hmx:Tryz.prog.follows .mixedOrders=true:=by kernel_rfl
   have TK:Bn<wr.heap.size:=by omega
   gi_wp2
   generalize hw2:World.alloc wr _=w2
   have CW:hp w2.drew wr.heap.size=some (.cells (aa h0) 49):=by rw [← hw2];exact heap_alloc_new _ _
   have hb2:Below wr.heap.size wr w2:=by rw [← hw2];exact aQ _ _
   have hs2:w2.heap.size=wr.heap.size+1:=by rw [← hw2];exact Av _ _
   clear hw2
   have XA:w2.drew.cell? ⟨wr.heap.size,0,none⟩=some (.int .i64 h0.pos):=(bO CW).1 0
   have XB:w2.drew.cell? ⟨Bn,0,none⟩=some (.pointer (some ⟨Bw,0,none⟩)):=(hb2.cell (p:=⟨Bn,0,none⟩) TK).trans Qc
   have Sq:=sK (w:=w2.drew) ((hb2.block Bw tO).trans WG)
   have hbd:Below wr.heap.size wr w2.drew:=hb2.drew
   have QR:sD n0 Bn wr w2.drew:=⟨hbd.mono tO,hb2.block Bn TK⟩
   obtain ⟨tb,htb⟩:∃ tb,Hid (tb=gZ x.ch h0):=⟨_,rfl⟩
   have O7:jR x k=tb:=by unfold jR;rw [← hh.out,htb.out];rfl
   have HST:=Lib.hid (qP x.ch h0 a b p q w2.drew ((s1.below (O6.1.trans QR.1)).more (by show n0≤w2.heap.size;omega)) n1 ((s2.below (O6.1.trans QR.1)).more (by show n0≤w2.heap.size;omega)) n2 (by have:=m.1;unfold maxLen;omega) (by have:=m.2.1;unfold maxLen;omega))
   rw [← htb.out] at HST
   have HN:Hid (∀ w3:World,Below w2.drew.heap.size w2.drew w3→Below wr.heap.size wr w3∧sD n0 Bn wr w3∧J (fU x k) w3∧wr.heap.size≤w3.heap.size):=fun w3 wJ=>by
    have hbe:Below wr.heap.size wr w3:=hbd.trans (wJ.mono (by show wr.heap.size≤w2.heap.size;omega))
    exact ⟨hbe,qQ QR ⟨wJ.mono (by show n0≤w2.heap.size;omega),wJ.block Bn (by show Bn<w2.heap.size;omega)⟩,abide hJ hJs hbe,hbe.size⟩
   clear hbd QR htb hL Qc
   cases tb with
   | false =>
    first|gi_region_with_o (first|(refine ⟨trivial,?_⟩;gi_at_call 107;refine (callsIn_wide.2 HST.out).mono ?_;rintro _ w3 ⟨rfl,wJ⟩)|(refine ⟨fun _ h=>(by cases h),?_⟩))|fail
    all_goals
     obtain ⟨hbe,Sr,hJ3,hs3⟩:=HN.out _ wJ
     clear Sq HST wJ HN
     gi_wp2
     go_roundw
     all_goals first|exact ⟨k+1,by omega,by rw [hwk],by rw [Iz O7];exact hJ3,qQ O6 Sr,by omega⟩|(rw [hwk];simp [intOf];omega)
   | true =>
    gi_region_with_o (first|(refine ⟨trivial,?_⟩;gi_at_call 107;refine (callsIn_wide.2 HST.out).mono ?_;rintro _ w3 ⟨rfl,wJ⟩;obtain ⟨fn,tmps,assign,body,hy,hR⟩:=hY (fU x k) k w3 (HN.out _ wJ).2.2.1 (by have:=qj x k;omega))|(refine hR.mono ?_;rintro f W3 hD;obtain ⟨bv,rfl,hE⟩:=O5 hD))
    all_goals
     obtain ⟨hbe,Sr,hJ3,hs3⟩:=HN.out _ wJ
     clear Sq HST wJ HN
     rcases hE.out with ⟨rfl,WH,hk4⟩|⟨rfl,Su⟩
     ·have hs4:=hk4.1.size
      gi_wp2
      go_roundw
      all_goals first|exact ⟨k+1,by omega,by rw [hwk],by rw [uY O7];exact WH,qQ (qQ O6 Sr) hk4,by omega⟩|(rw [hwk];simp [intOf];omega)
     ·gi_wp2
      refine bodyPost_ret (results_none rfl _ _ _) rfl ?_
      exact ⟨⟨_,rfl⟩,.inr ⟨_,⟨k+1,by omega,(uY O7).symm⟩,Su⟩⟩
  ·obtain rfl:k=x.hands.length:=by omega
   gi_wp2
   go_end0
   exact ⟨⟨_,rfl⟩,.inl ⟨_,rfl,hJs⟩⟩
end
section
open Go.RowKit Go.Shelf
attribute [local go_sem] Oper.semAt_some
theorem O8 {F:Fence} {n:Nat} {P:Program} {f:FuncId} {args:Array Value} {W:World} {Q:Ending→World→Prop} (w:World) (h:Below w.heap.size w W) (k:Below w.heap.size w W→CallsIn F n P f args W Q):CallsIn F n P f args W Q:=k h
theorem Cj (B:Nat) (w:World):Calls Tryz.prog 56 #[.pointer (some ⟨B,0,none⟩)] w fun r w'=>r=.returned (.func (.func 106) #[] #[.pointer (some ⟨w.heap.size,0,none⟩)])∧w'=w.alloc (.cells #[.pointer (some ⟨B,0,none⟩)] 82):=by
 go_enter Tryz.func56,Tryz.ntmps56
 go_wp2
 go_ret
 exact ⟨rfl,rfl⟩
theorem Ck (w:World) (o1 o2 o3:Obj):hp (((w.alloc o1).alloc o2).alloc o3) (w.heap.size+1+1)=some o3:=by
 have h:=World.alloc_heap_new ((w.alloc o1).alloc o2) o3
 rwa [World.size_alloc,World.size_alloc] at h
theorem KX (w:World) (o1 o2 o3:Obj):hp (((w.alloc o1).alloc o2).alloc o3) w.heap.size=some o1:=by
 have h:=World.alloc_heap_new w o1
 exact ((Below.heap_alloc _ _ _ (by simp;omega)).trans (Below.heap_alloc _ _ _ (by simp))).trans h
theorem iG.atP {w W:World} {x:Wo} {a b d e:Option Addr} (h:iG w w.heap.size x a b d e) (hb:Below w.heap.size w W):iG W W.heap.size x a b d e:=⟨(h.1.below hb).more hb.size,(h.2.1.below hb).more hb.size,(h.2.2.1.below hb).more hb.size,(h.2.2.2.below hb).more hb.size⟩
theorem zC (n:Nat) (hn:1≤n) (Bn Bw n0:Nat) (x:Wo) (a b d e:Option Addr) (p q r s:Nat) (w:World) (m:lJ x) (hlen:1≤x.hands.length) (Pm:hp w Bn=some (.cells #[.pointer (some ⟨Bw,0,none⟩)] 82)) (hBw:hp w Bw=some (.cells (gK x (.slice a x.ch.cells.length p) (.slice b x.ch.words.length q) (.slice d x.hands.length r) (.slice e x.deals.length s)) 35)) (hlo:Bw<n0) (hn0:n0≤w.heap.size) (S:iG w n0 x a b d e) (N:kT x a b d e p q r s) :
  SeqStopsK Fence.wide n Tryz.prog 106 #[.pointer (some ⟨Bn,0,none⟩)] (fun y:Int=>#[Value.int .i64 y]) (sD n0 Bn) (fun ys=>ys=fU x x.hands.length) (fun pre=>∃ k,k≤x.hands.length∧pre=fU x k) x.hands.length w:=fun l J Jx W hW hJ _ hY h0 =>
 EH n hn l Bn Bw n0 x a b d e p q r s J Jx W m hlen hY hJ ((hW.block Bn (bO Pm).2.2).trans Pm) ((hW.block Bw tO).trans hBw) hlo (Nat.le_trans hn0 hW.size) ⟨S.1.below (hW.mono hn0),S.2.1.below (hW.mono hn0),S.2.2.1.below (hW.mono hn0),S.2.2.2.below (hW.mono hn0)⟩ N h0
theorem wK (x:Wo) (a b d e:Option Addr) (p q r s:Nat) (w:World) (h:iG w w.heap.size x a b d e) (z:kT x a b d e p q r s) (m:lJ x) (hk:bJ x=true) :
  Calls Tryz.prog 16 #[xc x a b d e p q r s] w fun r' w'=>(∃ v,r'=.returned v∧ai w' w.heap.size v (fU x x.hands.length))∧Below w.heap.size w w':=by
 obtain ⟨i0,hi,hz0,hz1,hz2⟩:=info_parts ku
 refine (callsIn_wide (n:=3)).1 ?_
 refine callsIn_of_wp_marks Tryz.func16 rfl trivial ?_ rfl
 simp only [Tryz.ntmps16,List.size_toArray,List.length_cons,List.length_nil,Nat.reduceAdd,Nat.reduceSub,Array.replicate_succ,Array.replicate_zero,List.push_toArray,List.append_toArray,List.nil_append,List.cons_append]
 gi_wp2_with (first|(refine ⟨trivial,?_⟩;gi_at_call 49;refine O8 w zB fun bb=>?_;refine (callsIn_wide.2 (gq x a b d e p q r s _ (h.atP bb) m)).mono ?_;rintro _ w1 ⟨rfl,hb1⟩;rw [hk];have hB1:Below w.heap.size w w1:=bT bb hb1;have dw:=(hb1.block w.heap.size (by simp;omega)).trans (KX w _ _ _);have Sv:Boxed w1 (w.heap.size+1+1) 29 (.slice (some ⟨w.heap.size+1,0,none⟩) 0 0):=(hb1.block (w.heap.size+1+1) (by simp)).trans (Ck w _ _ _);have o0:w1.ownsRow (w.heap.size+1) 2 1 (.slice (some ⟨w.heap.size+1,0,none⟩) 0 0) 0 []:=own_below (own_below (gu _ _ _ _ (w.heap.size+1) (by simp) (by simp)) (aQ _ _)) hb1;have hs1:=hb1.size;(simp at hs1);clear hb1 bb)|(refine ⟨trivial,?_⟩;gi_at_call 56;refine (callsIn_wide.2 (Cj w.heap.size _)).mono ?_;rintro _ w2 ⟨rfl,hw2⟩))
 clear hw2
 have hlen:1≤x.hands.length:=by
  simp [bJ,fV] at hk
  omega
 have hBa:Below w.heap.size w (w1.alloc (.cells #[.pointer (some ⟨w.heap.size,0,none⟩)] 82)):=bA hB1
 have bN:=Boxed.new w1 82 (.pointer (some ⟨w.heap.size,0,none⟩))
 have Sw:=(Below.heap_alloc w1 (.cells #[.pointer (some ⟨w.heap.size,0,none⟩)] 82) w.heap.size tO).trans dw
 have S2:iG (w1.alloc (.cells #[.pointer (some ⟨w.heap.size,0,none⟩)] 82)) (w.heap.size+1) x a b d e:=⟨(h.1.below hBa).more tO,(h.2.1.below hBa).more tO,(h.2.2.1.below hBa).more tO,(h.2.2.2.below hBa).more tO⟩
 refine wpIn_rangeFunc_ownG rfl tO (gf:=106) (lb:=#[.pointer (some ⟨w1.heap.size,0,none⟩)]) rfl trivial (enters_of Tryz.func106 (by kernel_rfl) rfl)
  (zC (3 - 1) tO w1.heap.size w.heap.size (w.heap.size+1) x a b d e p q r s _ m hlen bN Sw tO (by simp;omega) S2 z) qQ (fun W l o o' hl hW hc hw=>⟨belowK_b (w:=(w1.alloc (.cells #[.pointer (some ⟨w.heap.size,0,none⟩)] 82))) (by simp;omega) W l o o' hl hW hc hw,World.putObj_heap_other (by simp at hl;omega)⟩) (Below.refl _ _) (fun _=>rfl)
  (fun pre W=>(∃ v,Boxed W (w.heap.size+1+1) 29 v∧W.ownsRow (w.heap.size+1) 2 1 v pre.length (pre.map (Value.int .i64))∧True)∧Boxed W w1.heap.size 82 (.pointer (some ⟨w.heap.size,0,none⟩))∧Below w.heap.size w W)
  (fun _ _ _=>False)
  (OwnFrom.and (Own.from (holdsRow_own (w.heap.size+1) (w.heap.size+1+1) 29 2 1 (fun pre:List Int=>pre.length) (fun pre=>pre.map (Value.int .i64)) (fun _ _=>True)) _) (OwnFrom.and (Own.from (boxed_own _ _ _) _) (ownFrom_below (Nat.le_refl _) (by simp;omega))))
  (fun _ _ _ _ _ hs _ _=>hs)
  ⟨⟨_,Sv.alloc _,own_below o0 (aQ _ _),trivial⟩,bN,hBa⟩
  (fun y=>{ tmps:=#[.agg #[.int .i64 x.ch.cap,.int .i64 x.ch.sent,.int .i64 x.ch.got,.int .i64 x.ch.fin,.slice a x.ch.cells.length p,.slice b x.ch.words.length q,.slice d x.hands.length r,.slice e x.deals.length s,.int .i64 x.now],.pointer (some ⟨w.heap.size,0,none⟩),.slice none 0 0,.pointer (some ⟨w.heap.size+1+1,0,none⟩),.int .i64 y,.slice (some ⟨w.heap.size+1,0,none⟩) 0 0,.agg #[.int .i64 x.ch.cap,.int .i64 x.ch.sent,.int .i64 x.ch.got,.int .i64 x.ch.fin,.slice a x.ch.cells.length p,.slice b x.ch.words.length q,.slice d x.hands.length r,.slice e x.deals.length s,.int .i64 x.now],.bool true,.bool false,undef,.func (.func 106) #[] #[.pointer (some ⟨w1.heap.size,0,none⟩)],.int .i64 y,undef,undef,undef,undef,undef],defers:=[] }) ?assign ?body ?done ?stop
 case assign =>
  intro l y W K hK
  gi_wp2
  exact hK
 case body =>
  rintro l pre y W ⟨⟨v,hv,hrow,_⟩,hbn,hB⟩ hlt
  have hc:=hv.cell
  have hpl:=m.2.2.1
  have hbl:=hbn.lt
  have b1:pre.length+1≤maxLen:=by unfold maxLen;omega
  have b2:(pre.length+1)*8≤140737488355328:=by omega
  have b3:w.heap.size+1≤(W.alloc (.cells #[.int .i64 y] 2)).heap.size:=by rw [World.size_alloc];omega
  gi_wp2_with (gi_at_builtin;refine wpListIn_append_own _ rfl _ _ 29 rfl (w.heap.size+1) 2 i0 (.int .i64 0) 1 8 Tryz.underlying29 hi hz0 hz1 hz2 rfl (by decide) _ _ _ rfl (hrow.alloc _) ⟨W.heap.size,0,none⟩ 1 1 [.int .i64 y] rfl rfl (cell_one_new _ _ _) (by simp [Value.oneCell']) b1 b2 b3 ?_)
  intro v' w3 hown' hgrow _
  obtain ⟨g',cap',rfl⟩:=ownsRow_succ hown'
  obtain ⟨hv1,hv2,hr2,hk2,hb2⟩:=hv.appended (by decide) hrow tO tO hown' hgrow
  have hc1:=hv1.cell
  have hf1:=hv1.frozen
  have Qb:=((hbn.alloc _).kept hgrow (hbn.not_row (by decide) hrow)).kept (grownBy_setCell' w3 (w.heap.size+1+1) (.slice (some ⟨g',0,none⟩) (pre.length+1) cap')) (by simp;omega)
  gi_wp2
  exact ⟨hk2.from _,⟨hb2,Eq.trans Qb (Eq.symm hbn)⟩,⟨_,hv2,by simpa using hr2,trivial⟩,Qb,hB.trans (hb2.mono tO)⟩
 case done =>
  rintro D ys W hD rfl ⟨⟨v,hv,hrow,_⟩,hbn,hB⟩ hK
  have hc:=hv.cell
  gi_wp2
  refine ⟨by simp,.inl ⟨_,_,rfl,run_takeDeferred hK,?_⟩⟩
  exact ⟨_,results_tmp rfl _ _ _,⟨v,rfl,av (ownsRow_putObj hrow _ hK rfl) tO⟩,hB.trans (belowK_b (w:=w) (Nat.le_refl _) W D _ _ (by simp at hD;omega) hK rfl rfl)⟩
 case stop =>
  rintro D c pre W _ _ h _
  exact h.elim
theorem pJ (x:Wo) (a b d e:Option Addr) (p q r s:Nat) (w:World) (h:iG w w.heap.size x a b d e) (z:kT x a b d e p q r s) (m:lJ x) :
  Calls Tryz.prog 16 #[xc x a b d e p q r s] w fun r' w'=>(∃ v,r'=.returned v∧ai w' w.heap.size v (eU x))∧Below w.heap.size w w':=by
 cases hk:bJ x with
 | true =>
  rw [show eU x=fU x x.hands.length by simp [eU,hk]]
  exact wK x a b d e p q r s w h z m hk
 | false =>
  rw [show eU x=[] by simp [eU,hk]]
  have HW:=Lib.hid h
  clear h
  go_enter Tryz.func16,Tryz.ntmps16
  go_wp2_with fail
  refine ax w zB fun bb=>?_
  refine (gq x a b d e p q r s _ (HW.out.atP bb) m).mono ?_
  rintro _ w1 ⟨rfl,hb1⟩
  rw [hk]
  have Sv:hp w1 (w.heap.size+1+1)=some (.cells #[.slice (some ⟨w.heap.size+1,0,none⟩) 0 0] 29):=(hb1.block (w.heap.size+1+1) (by simp)).trans (Ck w _ _ _)
  have o0:ai w1 w.heap.size (.slice (some ⟨w.heap.size+1,0,none⟩) 0 0) []:=own_below (own_below (gu _ _ _ _ (w.heap.size+1) (by simp) (by simp)) (aQ _ _)) hb1
  have hB1:Below w.heap.size w w1:=bT bb hb1
  obtain ⟨RL,VN,VO⟩:=bO Sv
  clear bb hb1
  go_wp2
  go_ret
  exact ⟨⟨_,rfl,o0⟩,by exact zB⟩
end
section
open Go.RowKit
attribute [local simp] aC
attribute [local go_sem ↓] aB aU aL bB aM bC aG aN au aF
theorem iG.atQ {w W:World} {x:Wo} {a b d e:Option Addr} (h:iG w w.heap.size x a b d e) (hb:Below w.heap.size w W):iG W W.heap.size x a b d e:=⟨(h.1.below hb).more hb.size,(h.2.1.below hb).more hb.size,(h.2.2.1.below hb).more hb.size,(h.2.2.2.below hb).more hb.size⟩
structure LB (w:World) (B:Nat) (x:Wo) (a b d e:Option Addr) (p q r s:Nat):Prop where
 box:hp w B=some (.cells #[.int .i64 x.ch.cap,.int .i64 x.ch.sent,.int .i64 x.ch.got,.int .i64 x.ch.fin,.slice a x.ch.cells.length p,.slice b x.ch.words.length q,.slice d x.hands.length r,.slice e x.deals.length s,.int .i64 x.now] 35)
 seg:iG w w.heap.size x a b d e
 non:kT x a b d e p q r s
 len:lJ x
theorem LB.on {w W:World} {B:Nat} {x:Wo} {a b d e:Option Addr} {p q r s:Nat} (h:LB w B x a b d e p q r s) (hb:Below w.heap.size w W):LB W B x a b d e p q r s:=⟨(hb.block B (bO h.box).2.2).trans h.box,h.seg.atQ hb,h.non,h.len⟩
def jk (c:Ch) (h:Ha):Bool:=h.pos != 0 && !gZ c h
def gN (k:Int) (h:Ha):Bool:=h.pos == 23 && h.code == k
theorem O9 {c:Ch} {h:Ha} (e:(h.pos != 0)=true):Value.bool (!gZ c h)=.bool (jk c h):=by simp [jk,e]
theorem OA {c:Ch} {h:Ha} (e:(h.pos != 0)=false):Value.bool false=.bool (jk c h):=by simp [jk,e]
theorem Cm (w:World) (o1 o2:Obj):hp ((w.alloc o1).alloc o2) (w.heap.size+1)=some o2:=by
 have h:=heap_alloc_new (w.alloc o1) o2
 rwa [World.size_alloc] at h
theorem uZ {w:World} {lo:Nat} {v:Value} {l:List Int} (h:IM w lo v l):∃ a c,v=.slice a l.length c:=by
 rcases h with ⟨rfl,e⟩|⟨g,c,rfl,_⟩
 ·exact ⟨none,0,by rw [e]⟩
 ·exact ⟨_,_,rfl⟩
theorem wL (x:Wo) (a b d e:Option Addr) (p q r v0 B:Nat) (w:World) (H:LB w B x a b d e p q r v0) :
  Calls Tryz.prog 127 #[.agg #[.pointer (some ⟨B,0,none⟩)]] w fun r' w'=>r'=.returned (.bool (bJ x))∧Below w.heap.size w w':=by
 have HH:=Lib.hid H
 obtain ⟨BU,Ig,KD⟩:=bO H.box
 clear H
 go_enter Tryz.func127,Tryz.ntmps127
 go_wp2_with (go_at_call 49;refine ax w zB fun bb=>?_;refine (gq x a b d e p q r v0 _ (HH.out.on bb).seg HH.out.len).mono ?_;rintro _ w1 ⟨rfl,hb1⟩)
 go_ret
 exact ⟨rfl,bT bb hb1⟩
theorem nN (x:Wo) (a b d e:Option Addr) (p q r v0 B:Nat) (w:World) (H:LB w B x a b d e p q r v0) :
  Calls Tryz.prog 159 #[.agg #[.pointer (some ⟨B,0,none⟩)]] w fun r' w'=>r'=.returned (.int .i64 (keptIn x.ch).length)∧Below w.heap.size w w':=by
 have HH:=Lib.hid H
 obtain ⟨BU,Ig,KD⟩:=bO H.box
 have Sq:=sK (x:=x) ((Below.heap_alloc w (.cells #[.pointer (some ⟨B,0,none⟩)] 97) B KD).trans H.box)
 clear H
 go_enter Tryz.func159,Tryz.ntmps159
 go_wp2_with (go_at_call 17;refine ax w zB fun bb=>?_;refine (uW x.ch a b p q _ (HH.out.on bb).seg.1 (HH.out.on bb).seg.2.1 (by have:=HH.out.len.1;unfold maxLen;omega) (by have:=HH.out.len.2.1;unfold maxLen;omega)).mono ?_;rintro _ w1 ⟨⟨v,rfl,hN⟩,hb1⟩;obtain ⟨a',c',rfl⟩:=uZ hN)
 go_ret
 exact ⟨rfl,bT bb hb1⟩
theorem EI (h:Ha) (k:Int) (B:Nat) (w:World) (z:hp w B=some (.cells #[.int .i64 k] 2)) :
  Calls Tryz.prog 185 #[.agg (aa h),.pointer (some ⟨B,0,none⟩)] w fun r' w'=>r'=.returned (.bool (gN k h))∧Below w.heap.size w w':=by
 obtain ⟨BU,Ig,KD⟩:=bO z
 unfold gN
 cases hp0:(h.pos == 23) with
 | false =>
  go_enter Tryz.func185,Tryz.ntmps185
  go_wp2
  go_ret
  exact ⟨rfl,by exact zB⟩
 | true =>
  go_enter Tryz.func185,Tryz.ntmps185
  go_wp2
  go_ret
  exact ⟨rfl,by exact zB⟩
theorem Nw {P:Ha→Bool} {hs:List Ha} {k:Nat} {h:Ha} (hk:k<hs.length) (hc:hs.getD k Ha.zero=h) (e:P h=true):hs.any P=true:=by
 rw [List.any_eq_true]
 refine ⟨hs[k],List.getElem_mem hk,?_⟩
 rw [← hc] at e
 simpa [List.getD,List.getElem?_eq_getElem hk] using e
theorem OB {P:Ha→Bool} {hs:List Ha} {k:Nat} {h:Ha} (hk:k<hs.length) (hc:hs.getD k Ha.zero=h) (e:(hs.take k).any P=false) (e1:P h=false):(hs.take (k+1)).any P=false:=by
 rw [fK _ k Ha.zero hk,hc,List.any_append,e];simp [e1]
theorem EJ (g:Nat) (pre lb:Array Value) (P:Ha→Bool) (hs:List Ha) (d:Option Addr) (r:Nat) (w:World) (h3:Jn w w.heap.size d hs) (m:hs.length≤1099511627776)
  (eg:∀ args w,(callFunc g args).run Tryz.prog w=.ok (.enter g args) w)
  (HP:∀ (W:World) (h:Ha),Below w.heap.size w W→Calls Tryz.prog g (pre.push (.agg (aa h)) ++ lb) W fun r' w'=>r'=.returned (.bool (P h))∧Below W.heap.size W w') :
  Calls Tryz.prog 193 #[.slice d hs.length r,.func (.func g) pre lb] w fun r' w'=>(∃ i:Int,r'=.returned (.int .i64 i)∧decide (0≤i)=hs.any P)∧Below w.heap.size w w':=by
 replace HP:=Lib.hid HP
 go_enter Tryz.func193,Tryz.ntmps193
 go_wp2_with fail
 go_loopw [5,8] (fun _ i wr=>∃ k:Nat,k≤hs.length∧i=.int .i64 k∧Hid ((hs.take k).any P=false)∧Below w.heap.size w wr) (fun _ i _=>hs.length - (intOf i).toNat)
 case atStart=>exact ⟨0,Nat.zero_le _,rfl,rfl,by exact zB⟩
 case round =>
  obtain ⟨k,hk,rfl,hall,hB⟩:=hrel
  by_cases hlt:k<hs.length
  ·obtain ⟨b3,o3,rfl,hb3,hc3⟩:∃ b o,d=some ⟨b,o,none⟩∧b<w.heap.size∧(∀ i j,i<hs.length→j<14→w.cell? ⟨b,o+i*14+j,none⟩=some (fI hs i j)):=by
    rcases h3 with h0|h0
    ·omega
    ·exact h0
   have cc:=fun j hj=>hc3 k j hlt hj
   simp only [fI] at cc
   generalize hcg:hs.getD k Ha.zero=hx at cc
   have HC:=Lib.hid hcg
   clear hcg
   have hL:=nu (w:=wr) (b:=b3) (o:=o3+k*14) hx fun j hj=>by rw [← cc j hj];exact World.cell?_of_block (hB.block b3 hb3)
   clear cc hc3
   have hk0:(0:Int)≤(k:Int):=by omega
   have hk1:(k:Int)<(hs.length:Int):=by omega
   cases hG:P hx with
   | true =>
    go_wp2_with (go_at_fn g;refine (HP.out wr hx hB).mono ?_;rintro _ w6 ⟨rfl,hb6⟩;rw [hG])
    go_ret
    exact ⟨⟨(k:Int),rfl,by rw [Nw hlt HC.out hG];exact decide_eq_true hk0⟩,bT hB hb6⟩
   | false =>
    go_wp2_with (go_at_fn g;refine (HP.out wr hx hB).mono ?_;rintro _ w6 ⟨rfl,hb6⟩;rw [hG])
    go_roundw
    case rel=>exact ⟨k+1,by omega,by go_num,OB hlt HC.out hall.out hG,bT hB hb6⟩
    case measure=>simp [intOf];omega
  ·obtain rfl:k=hs.length:=by omega
   go_wp2
   go_ret
   exact ⟨⟨-1,rfl,by have:=hall.out;rw [List.take_length] at this;rw [this];rfl⟩,hB⟩
theorem pK (g:Nat) (pre lb:Array Value) (P:Ha→Bool) (hs:List Ha) (d:Option Addr) (r:Nat) (w:World) (h3:Jn w w.heap.size d hs) (m:hs.length≤1099511627776)
  (eg:∀ args w,(callFunc g args).run Tryz.prog w=.ok (.enter g args) w)
  (HP:∀ (W:World) (h:Ha),Below w.heap.size w W→Calls Tryz.prog g (pre.push (.agg (aa h)) ++ lb) W fun r' w'=>r'=.returned (.bool (P h))∧Below W.heap.size W w') :
  Calls Tryz.prog 174 #[.slice d hs.length r,.func (.func g) pre lb] w fun r' w'=>r'=.returned (.bool (hs.any P))∧Below w.heap.size w w':=by
 have HI:=Lib.hid (EJ g pre lb P hs d r w h3 m eg HP)
 clear h3 HP
 go_enter Tryz.func174,Tryz.ntmps174
 go_wp2_with (go_at_call 193;refine HI.out.mono ?_;rintro _ w1 ⟨⟨i,rfl,hi⟩,hb1⟩)
 go_ret
 exact ⟨by first|rfl|exact bF hi,hb1⟩
theorem mF (x:Wo) (a b d e:Option Addr) (p q r v0 B:Nat) (w:World) (H:LB w B x a b d e p q r v0) (k:Int) :
  Calls Tryz.prog 160 #[.agg #[.pointer (some ⟨B,0,none⟩)],.int .i64 k] w fun r' w'=>r'=.returned (.bool (x.hands.any (gN k)))∧Below w.heap.size w w':=by
 have HH:=Lib.hid H
 obtain ⟨BU,Ig,KD⟩:=bO H.box
 clear H
 have eg:∀ args w,(callFunc 185 args).run Tryz.prog w=.ok (.enter 185 args) w:=enters_of Tryz.func185 (by kernel_rfl) rfl
 have HC:=Lib.hid fun (W:World) (C:Nat) (hb:Below w.heap.size w W) (z:hp W C=some (.cells #[.int .i64 k] 2))=>pK 185 #[] #[.pointer (some ⟨C,0,none⟩)] (gN k) x.hands d r W (HH.out.on hb).seg.2.2.1 (by have:=HH.out.len.2.2.1;omega) eg (fun W2 h hb2=>(EI h k C W2 ((hb2.block C (bO z).2.2).trans z):Calls Tryz.prog _ #[_,_] _ _))
 clear eg
 go_enter Tryz.func160,Tryz.ntmps160
 go_wp2_with (go_at_call 174;refine ax w zB fun bb=>?_;refine (HC.out _ (w.heap.size+1) bb (Cm _ _ _)).mono ?_;rintro _ w1 ⟨rfl,hb1⟩)
 go_ret
 exact ⟨rfl,bT bb hb1⟩
theorem zD (x:Wo) (a b d e:Option Addr) (p q r v0 B:Nat) (w:World) (H:LB w B x a b d e p q r v0) (h:Ha) :
  Calls Tryz.prog 175 #[.agg #[.pointer (some ⟨B,0,none⟩)],.agg (aa h)] w fun r' w'=>r'=.returned (.bool (jk x.ch h))∧Below w.heap.size w w':=by
 have HH:=Lib.hid H
 clear H
 go_enter Tryz.func175,Tryz.ntmps175
 go_wp2_with fail
 generalize lV:World.alloc _ _=w5
 have Cw:hp w5 w.heap.size=some (.cells #[.pointer (some ⟨B,0,none⟩)] 97):=by rw [← lV];exact (Below.heap_alloc _ _ _ (by simp)).trans (heap_alloc_new _ _)
 have CW:hp w5 (w.heap.size+1)=some (.cells (aa h) 49):=by rw [← lV];have e:=heap_alloc_new (World.alloc w (.cells #[.pointer (some ⟨B,0,none⟩)] 97)) (.cells (aa h) 49);rwa [World.size_alloc] at e
 have ll:Below w.heap.size w w5:=by rw [← lV];exact (aQ _ _).trans ((aQ _ _).mono (by simp))
 clear lV
 have nJ:=(HH.out.on ll).box
 refine bI [[],[0],[0,1],[0,1,2],[0,1,2,3],[0,1,2,3,4],[0,1,2,3,4,5],[0,1,2,3,4,5,6],qB [],[0,1,2,3],qB [8,9],qB [8,9,10],qB [8,9,10,11],qB [8,9,10,11,12]] [5,6,7,8,9,10,11,12,13,14,15,16,17,4] (fun l s wx=>(Below w5.heap.size w5 wx)∧(l 0=true→s 5=.pointer (some ⟨w.heap.size+1,0,none⟩))∧(l 1=true→s 6=.int .i64 h.pos)∧(l 2=true→s 7=.bool (h.pos != 0))∧(l 3=true→s 8=.bool (h.pos != 0))∧(l 4=true→(h.pos != 0)=true→s 9=.pointer (some ⟨w.heap.size,0,none⟩))∧(l 5=true→(h.pos != 0)=true→s 10=.pointer (some ⟨B,0,none⟩))∧(l 6=true→(h.pos != 0)=true→s 11=.pointer (some ⟨B,0,none⟩))∧(l 7=true→(h.pos != 0)=true→s 12=.pointer (some ⟨B,0,none⟩))∧(l 8=true→(h.pos != 0)=true→s 13=.agg (af x.ch (.slice a x.ch.cells.length p) (.slice b x.ch.words.length q)))∧(l 9=true→(h.pos != 0)=true→s 14=.agg (aa h))∧(l 10=true→(h.pos != 0)=true→s 15=.bool (gZ x.ch h))∧(l 11=true→(h.pos != 0)=true→s 16=.bool (!gZ x.ch h))∧(l 12=true→s 17=.bool (jk x.ch h))∧(l 13=true→s 4=.bool (jk x.ch h))) (by kernel_rfl) (by kernel_rfl) (by kernel_rfl) (fun s=>by (simp only [fill,fC,List.setIfInBounds_toArray,List.set_cons_zero,List.set_cons_succ];rfl)) (fun s=>⟨(Below.refl _ _).drew,nB,nB,nB,nB,nB,nB,nB,nB,nB,nB,nB,nB,nB,nB⟩) ?_ ?_
 refine ⟨?_,?_,?_,?_,?_,?_,?_,?_,?_,?_,?_,?_,?_,?_,trivial⟩;iterate 14 (intro l s wx hl hd hn hf K hK;rotate_left)
 ·intro l s w6 kK hf
  have ec:=(jC (jD hf)).2.2 (kK 13 rfl)
  have hb6:Below w5.heap.size w5 w6:=hf.1
  simp only [ec]
  clear ec hf kK
  go_wp2
  go_ret
  exact ⟨rfl,ll.trans (hb6.mono ll.size)⟩
 ·go_simp
  refine hK.out (upd s 5 (.pointer (some ⟨w.heap.size+1,0,none⟩))) _ _ (by simp [ae] <;> rfl) (kA (kX (fun _=>rfl) id) hf.out)
 ·have e0:=(hf.out.2.1 (hd 0 rfl))
  have z:=(bO (dS CW hf.out.1)).1 0
  go_simp
  refine hK.out (upd s 6 (.int .i64 h.pos)) _ _ (by simp [ae,e0] <;> rfl) (kB (kX (fun _=>rfl) id) hf.out)
 ·have e1:=(hf.out.2.2.1 (hd 1 rfl))
  go_simp
  refine hK.out (upd s 7 (.bool (h.pos != 0))) _ _ (by simp [ae,e1] <;> rfl) (kB (kA (kX (fun _=>rfl) id)) hf.out)
 ·have e2:=(hf.out.2.2.2.1 (hd 2 rfl))
  go_simp
  refine hK.out (upd s 8 (.bool (h.pos != 0))) _ _ (by simp [ae,e2] <;> rfl) (kC (kX (fun _=>rfl) id) hf.out)
 ·have e3:=(hf.out.2.2.2.2.1 (hd 3 rfl))
  cases hG:((h.pos != 0)) with
  | true =>
   rw [hG] at e3
   go_simp
   refine hK.out (upd s 9 (.pointer (some ⟨w.heap.size,0,none⟩))) _ _ (by simp [ae,e3] <;> rfl) (kC (kA (kX (fun _ _=>rfl) id)) hf.out)
  | false =>
   rw [hG] at e3
   go_simp
   refine hK.out (upd s 9 (undef)) _ _ (by simp [ae,e3] <;> rfl) (kC (kA (kX (fun _ h=>Bool.noConfusion (h.symm.trans hG)) id)) hf.out)
 ·have e3:=(hf.out.2.2.2.2.1 (hd 3 rfl))
  cases hG:((h.pos != 0)) with
  | true =>
   rw [hG] at e3
   have e4:=((jC hf.out).2.1 (hd 4 rfl)) hG
   have z:=(bO (dS Cw hf.out.1)).1 0
   go_simp
   refine hK.out (upd s 10 (.pointer (some ⟨B,0,none⟩))) _ _ (by simp [ae,e3,e4] <;> rfl) (kC (kB (kX (fun _ _=>rfl) id)) hf.out)
  | false =>
   rw [hG] at e3
   go_simp
   refine hK.out (upd s 10 (undef)) _ _ (by simp [ae,e3] <;> rfl) (kC (kB (kX (fun _ h=>Bool.noConfusion (h.symm.trans hG)) id)) hf.out)
 ·have e3:=(hf.out.2.2.2.2.1 (hd 3 rfl))
  cases hG:((h.pos != 0)) with
  | true =>
   rw [hG] at e3
   have e5:=((jC hf.out).2.2.1 (hd 5 rfl)) hG
   go_simp
   refine hK.out (upd s 11 (.pointer (some ⟨B,0,none⟩))) _ _ (by simp [ae,e3,e5] <;> rfl) (kC (kB (kA (kX (fun _ _=>rfl) id))) hf.out)
  | false =>
   rw [hG] at e3
   go_simp
   refine hK.out (upd s 11 (undef)) _ _ (by simp [ae,e3] <;> rfl) (kC (kB (kA (kX (fun _ h=>Bool.noConfusion (h.symm.trans hG)) id))) hf.out)
 ·have e3:=(hf.out.2.2.2.2.1 (hd 3 rfl))
  cases hG:((h.pos != 0)) with
  | true =>
   rw [hG] at e3
   have e6:=((jC hf.out).2.2.2.1 (hd 6 rfl)) hG
   go_simp
   refine hK.out (upd s 12 (.pointer (some ⟨B,0,none⟩))) _ _ (by simp [ae,e3,e6] <;> rfl) (kD (kX (fun _ _=>rfl) id) hf.out)
  | false =>
   rw [hG] at e3
   go_simp
   refine hK.out (upd s 12 (undef)) _ _ (by simp [ae,e3] <;> rfl) (kD (kX (fun _ h=>Bool.noConfusion (h.symm.trans hG)) id) hf.out)
 ·have e3:=(hf.out.2.2.2.2.1 (hd 3 rfl))
  cases hG:((h.pos != 0)) with
  | true =>
   rw [hG] at e3
   have e7:=((jD hf.out).1 (hd 7 rfl)) hG
   have z:=sK (x:=x) (dS nJ hf.out.1)
   go_simp
   refine hK.out (upd s 13 (.agg (af x.ch (.slice a x.ch.cells.length p) (.slice b x.ch.words.length q)))) _ _ (by simp [ae,e3,e7] <;> rfl) (kD (kA (kX (fun _ _=>rfl) id)) hf.out)
  | false =>
   rw [hG] at e3
   go_simp
   refine hK.out (upd s 13 (undef)) _ _ (by simp [ae,e3] <;> rfl) (kD (kA (kX (fun _ h=>Bool.noConfusion (h.symm.trans hG)) id)) hf.out)
 ·have e3:=(hf.out.2.2.2.2.1 (hd 3 rfl))
  cases hG:((h.pos != 0)) with
  | true =>
   rw [hG] at e3
   have z:=dS CW hf.out.1
   go_simp
   refine hK.out (upd s 14 (.agg (aa h))) _ _ (by simp [ae,e3] <;> rfl) (kD (kB (kX (fun _ _=>rfl) id)) hf.out)
  | false =>
   rw [hG] at e3
   go_simp
   refine hK.out (upd s 14 (undef)) _ _ (by simp [ae,e3] <;> rfl) (kD (kB (kX (fun _ h=>Bool.noConfusion (h.symm.trans hG)) id)) hf.out)
 ·have e3:=(hf.out.2.2.2.2.1 (hd 3 rfl))
  cases hG:((h.pos != 0)) with
  | true =>
   rw [hG] at e3
   have e8:=((jD hf.out).2.1 (hd 8 rfl)) hG
   have e9:=((jD hf.out).2.2.1 (hd 9 rfl)) hG
   go_simp
   go_at_call 107
   refine (qP x.ch h a b p q _ ((HH.out.on ll).on hf.out.1).seg.1 HH.out.non.1 ((HH.out.on ll).on hf.out.1).seg.2.1 HH.out.non.2.1 (by have:=HH.out.len.1;unfold maxLen;omega) (by have:=HH.out.len.2.1;unfold maxLen;omega)).mono ?_
   rintro _ wy ⟨rfl,hE⟩
   refine hK.out (upd s 15 (.bool (gZ x.ch h))) _ _ (by simp [ae,e3,e8,e9] <;> rfl) (kX (bT hf.out.1 hE) (kD (kB (kX (fun _ _=>rfl) (kX (nU (hn 11 rfl)) (kX (nU (hn 12 rfl)) (fun _=>nU (hn 13 rfl))))))) hf.out)
  | false =>
   rw [hG] at e3
   go_simp
   refine hK.out (upd s 15 (undef)) _ _ (by simp [ae,e3] <;> rfl) (kD (kB (kA (kX (fun _ h=>Bool.noConfusion (h.symm.trans hG)) id))) hf.out)
 ·have e3:=(hf.out.2.2.2.2.1 (hd 3 rfl))
  cases hG:((h.pos != 0)) with
  | true =>
   rw [hG] at e3
   have e10:=((jD hf.out).2.2.2.1 (hd 10 rfl)) hG
   go_simp
   refine hK.out (upd s 16 (.bool (!gZ x.ch h))) _ _ (by simp [ae,e3,e10] <;> rfl) (kD (kC (kX (fun _ _=>rfl) id)) hf.out)
  | false =>
   rw [hG] at e3
   go_simp
   refine hK.out (upd s 16 (undef)) _ _ (by simp [ae,e3] <;> rfl) (kD (kC (kX (fun _ h=>Bool.noConfusion (h.symm.trans hG)) id)) hf.out)
 ·have e3:=(hf.out.2.2.2.2.1 (hd 3 rfl))
  have e11:=((jC (jD hf.out)).1 (hd 11 rfl))
  cases hG:((h.pos != 0)) with
  | true =>
   rw [hG] at e3
   replace e11:=e11 hG
   go_simp
   refine hK.out (upd s 17 (.bool (!gZ x.ch h))) _ _ (by simp [ae,e3,e11] <;> rfl) (kD (kC (kA (kX (fun _=>by rw [show (upd s 17 (.bool (!gZ x.ch h))) 17=.bool (!gZ x.ch h) from rfl];exact O9 hG) id))) hf.out)
  | false =>
   clear e11
   rw [hG] at e3
   go_simp
   refine hK.out (upd s 17 (.bool false)) _ _ (by simp [ae,e3] <;> rfl) (kD (kC (kA (kX (fun _=>by rw [show (upd s 17 (.bool false)) 17=.bool false from rfl];exact OA hG) id))) hf.out)
 ·have e12:=((jC (jD hf.out)).2.1 (hd 12 rfl))
  go_simp
  refine hK.out (upd s 4 (.bool (jk x.ch h))) _ _ (by simp [ae,e12] <;> rfl) (kD (kC (kB (fun _=>fun _=>rfl))) hf.out)
theorem zF (x:Wo) (a b d e:Option Addr) (p q r v0 B:Nat) (w:World) (H:LB w B x a b d e p q r v0) :
  Calls Tryz.prog 128 #[.agg #[.pointer (some ⟨B,0,none⟩)]] w fun r' w'=>r'=.returned (.bool (!x.hands.any (jk x.ch)))∧Below w.heap.size w w':=by
 have HH:=Lib.hid H
 clear H
 have eg:∀ args w,(callFunc 175 args).run Tryz.prog w=.ok (.enter 175 args) w:=enters_of Tryz.func175 (by kernel_rfl) rfl
 have HC:=Lib.hid fun (W:World) (hb:Below w.heap.size w W)=>pK 175 #[.agg #[.pointer (some ⟨B,0,none⟩)]] #[] (jk x.ch) x.hands d r W (HH.out.on hb).seg.2.2.1 (by have:=HH.out.len.2.2.1;omega) eg (fun W2 h hb2=>(zD x a b d e p q r v0 B W2 ((HH.out.on hb).on hb2) h:Calls Tryz.prog _ #[_,_] _ _))
 clear eg
 go_enter Tryz.func128,Tryz.ntmps128
 go_wp2_with fail
 generalize lV:World.alloc w _=w5
 have Cw:hp w5 w.heap.size=some (.cells #[.pointer (some ⟨B,0,none⟩)] 97):=by rw [← lV];exact heap_alloc_new _ _
 have ll:Below w.heap.size w w5:=by rw [← lV];exact aQ _ _
 clear lV
 have nJ:=(HH.out.on ll).box
 refine bI [[],[0],[0,1],[0,1,2],[0,1,2,3],[],[5],[0,1,2,3,4,5,6],qB [],qB [8]] [3,4,5,6,7,8,9,10,11,2] (fun l s wx=>(Below w5.heap.size w5 wx)∧(l 0=true→s 3=.pointer (some ⟨w.heap.size,0,none⟩))∧(l 1=true→s 4=.pointer (some ⟨B,0,none⟩))∧(l 2=true→s 5=.pointer (some ⟨B,0,none⟩))∧(l 3=true→s 6=.pointer (some ⟨B,6,none⟩))∧(l 4=true→s 7=.slice d x.hands.length r)∧(l 5=true→s 8=.agg #[.pointer (some ⟨B,0,none⟩)])∧(l 6=true→s 9=.func (.func 175) #[.agg #[.pointer (some ⟨B,0,none⟩)]] #[])∧(l 7=true→s 10=.bool (x.hands.any (jk x.ch)))∧(l 8=true→s 11=.bool (!x.hands.any (jk x.ch)))∧(l 9=true→s 2=.bool (!x.hands.any (jk x.ch)))) (by kernel_rfl) (by kernel_rfl) (by kernel_rfl) (fun s=>by (simp only [fill,fC,List.setIfInBounds_toArray,List.set_cons_zero,List.set_cons_succ];rfl)) (fun s=>⟨(Below.refl _ _).drew,nB,nB,nB,nB,nB,nB,nB,nB,nB,nB⟩) ?_ ?_
 refine ⟨?_,?_,?_,?_,?_,?_,?_,?_,?_,?_,trivial⟩;iterate 10 (intro l s wx hl hd hn hf K hK;rotate_left)
 ·intro l s w6 kK hf
  have ec:=(jD hf).2.2 (kK 9 rfl)
  have hb6:Below w5.heap.size w5 w6:=hf.1
  simp only [ec]
  clear ec hf kK
  go_wp2
  go_ret
  exact ⟨rfl,ll.trans (hb6.mono ll.size)⟩
 ·go_simp
  refine hK.out (upd s 3 (.pointer (some ⟨w.heap.size,0,none⟩))) _ _ (by simp [ae] <;> rfl) (kA (kX (fun _=>rfl) id) hf.out)
 ·have e0:=(hf.out.2.1 (hd 0 rfl))
  have z:=(bO (dS Cw hf.out.1)).1 0
  go_simp
  refine hK.out (upd s 4 (.pointer (some ⟨B,0,none⟩))) _ _ (by simp [ae,e0] <;> rfl) (kB (kX (fun _=>rfl) id) hf.out)
 ·have e1:=(hf.out.2.2.1 (hd 1 rfl))
  go_simp
  refine hK.out (upd s 5 (.pointer (some ⟨B,0,none⟩))) _ _ (by simp [ae,e1] <;> rfl) (kB (kA (kX (fun _=>rfl) id)) hf.out)
 ·have e2:=(hf.out.2.2.2.1 (hd 2 rfl))
  go_simp
  refine hK.out (upd s 6 (.pointer (some ⟨B,6,none⟩))) _ _ (by simp [ae,e2] <;> rfl) (kC (kX (fun _=>rfl) id) hf.out)
 ·have e3:=(hf.out.2.2.2.2.1 (hd 3 rfl))
  have z:=(bO (dS nJ hf.out.1)).1 6
  go_simp
  refine hK.out (upd s 7 (.slice d x.hands.length r)) _ _ (by simp [ae,e3] <;> rfl) (kC (kA (kX (fun _=>rfl) id)) hf.out)
 ·have z:=dS Cw hf.out.1
  have OC:=(bO z).1 0
  go_simp
  refine hK.out (upd s 8 (.agg #[.pointer (some ⟨B,0,none⟩)])) _ _ (by simp [ae] <;> rfl) (kC (kB (kX (fun _=>rfl) id)) hf.out)
 ·have e5:=((jC hf.out).2.2.1 (hd 5 rfl))
  go_simp
  refine hK.out (upd s 9 (.func (.func 175) #[.agg #[.pointer (some ⟨B,0,none⟩)]] #[])) _ _ (by simp [ae,e5] <;> rfl) (kC (kB (kA (kX (fun _=>rfl) id))) hf.out)
 ·have e4:=((jC hf.out).2.1 (hd 4 rfl))
  have e6:=((jC hf.out).2.2.2.1 (hd 6 rfl))
  go_simp
  go_at_call 174
  refine (HC.out _ (ll.trans ((hf.out.1).mono ll.size))).mono ?_
  rintro _ wy ⟨rfl,hE⟩
  refine hK.out (upd s 10 (.bool (x.hands.any (jk x.ch)))) _ _ (by simp [ae,e4,e6] <;> rfl) (kX (bT hf.out.1 hE) (kC (kB (kA (kX (fun _=>rfl) (kX (nU (hn 8 rfl)) (fun _=>nU (hn 9 rfl))))))) hf.out)
 ·have e7:=((jD hf.out).1 (hd 7 rfl))
  go_simp
  refine hK.out (upd s 11 (.bool (!x.hands.any (jk x.ch)))) _ _ (by simp [ae,e7] <;> rfl) (kD (kA (kX (fun _=>rfl) id)) hf.out)
 ·have e8:=((jD hf.out).2.1 (hd 8 rfl))
  go_simp
  refine hK.out (upd s 2 (.bool (!x.hands.any (jk x.ch)))) _ _ (by simp [ae,e8] <;> rfl) (kD (kB (fun _=>fun _=>rfl)) hf.out)
theorem Cn (x:Wo) (a b d e:Option Addr) (p q r v0 B:Nat) (w:World) (H:LB w B x a b d e p q r v0) :
  Calls Tryz.prog 109 #[.agg #[.pointer (some ⟨B,0,none⟩)]] w fun r' w'=>r'=.returned (.bool (decide (((keptIn x.ch).length:Int)≤x.ch.cap)))∧Below w.heap.size w w':=by
 have HH:=Lib.hid H
 clear H
 go_enter Tryz.func109,Tryz.ntmps109
 go_wp2_with fail
 generalize lV:World.alloc w _=w5
 have Cw:hp w5 w.heap.size=some (.cells #[.pointer (some ⟨B,0,none⟩)] 97):=by rw [← lV];exact heap_alloc_new _ _
 have ll:Below w.heap.size w w5:=by rw [← lV];exact aQ _ _
 clear lV
 have nJ:=(HH.out.on ll).box
 refine bI [[],[0],[],[2],[2,3],[2,3,4],[2,3,4,5],[2,3,4,5,6],qB [],qB [8]] [3,4,5,6,7,8,9,10,11,2] (fun l s wx=>(Below w5.heap.size w5 wx)∧(l 0=true→s 3=.agg #[.pointer (some ⟨B,0,none⟩)])∧(l 1=true→s 4=.int .i64 (keptIn x.ch).length)∧(l 2=true→s 5=.pointer (some ⟨w.heap.size,0,none⟩))∧(l 3=true→s 6=.pointer (some ⟨B,0,none⟩))∧(l 4=true→s 7=.pointer (some ⟨B,0,none⟩))∧(l 5=true→s 8=.pointer (some ⟨B,0,none⟩))∧(l 6=true→s 9=.pointer (some ⟨B,0,none⟩))∧(l 7=true→s 10=.int .i64 x.ch.cap)∧(l 8=true→s 11=.bool (decide (((keptIn x.ch).length:Int)≤x.ch.cap)))∧(l 9=true→s 2=.bool (decide (((keptIn x.ch).length:Int)≤x.ch.cap)))) (by kernel_rfl) (by kernel_rfl) (by kernel_rfl) (fun s=>by (simp only [fill,fC,List.setIfInBounds_toArray,List.set_cons_zero,List.set_cons_succ];rfl)) (fun s=>⟨(Below.refl _ _).drew,nB,nB,nB,nB,nB,nB,nB,nB,nB,nB⟩) ?_ ?_
 refine ⟨?_,?_,?_,?_,?_,?_,?_,?_,?_,?_,trivial⟩;iterate 10 (intro l s wx hl hd hn hf K hK;rotate_left)
 ·intro l s w6 kK hf
  have ec:=(jD hf).2.2 (kK 9 rfl)
  have hb6:Below w5.heap.size w5 w6:=hf.1
  simp only [ec]
  clear ec hf kK
  go_wp2
  go_ret
  exact ⟨rfl,ll.trans (hb6.mono ll.size)⟩
 ·have z:=dS Cw hf.out.1
  have OC:=(bO z).1 0
  go_simp
  refine hK.out (upd s 3 (.agg #[.pointer (some ⟨B,0,none⟩)])) _ _ (by simp [ae] <;> rfl) (kA (kX (fun _=>rfl) id) hf.out)
 ·have e0:=(hf.out.2.1 (hd 0 rfl))
  go_simp
  go_at_call 159
  refine (nN x a b d e p q r v0 B _ ((HH.out.on ll).on hf.out.1)).mono ?_
  rintro _ wy ⟨rfl,hE⟩
  refine hK.out (upd s 4 (.int .i64 (keptIn x.ch).length)) _ _ (by simp [ae,e0] <;> rfl) (kX (bT hf.out.1 hE) (kA (kX (fun _=>rfl) (kC (kB (kX (nU (hn 8 rfl)) (fun _=>nU (hn 9 rfl))))))) hf.out)
 ·go_simp
  refine hK.out (upd s 5 (.pointer (some ⟨w.heap.size,0,none⟩))) _ _ (by simp [ae] <;> rfl) (kB (kA (kX (fun _=>rfl) id)) hf.out)
 ·have e2:=(hf.out.2.2.2.1 (hd 2 rfl))
  have z:=(bO (dS Cw hf.out.1)).1 0
  go_simp
  refine hK.out (upd s 6 (.pointer (some ⟨B,0,none⟩))) _ _ (by simp [ae,e2] <;> rfl) (kC (kX (fun _=>rfl) id) hf.out)
 ·have e3:=(hf.out.2.2.2.2.1 (hd 3 rfl))
  go_simp
  refine hK.out (upd s 7 (.pointer (some ⟨B,0,none⟩))) _ _ (by simp [ae,e3] <;> rfl) (kC (kA (kX (fun _=>rfl) id)) hf.out)
 ·have e4:=((jC hf.out).2.1 (hd 4 rfl))
  go_simp
  refine hK.out (upd s 8 (.pointer (some ⟨B,0,none⟩))) _ _ (by simp [ae,e4] <;> rfl) (kC (kB (kX (fun _=>rfl) id)) hf.out)
 ·have e5:=((jC hf.out).2.2.1 (hd 5 rfl))
  go_simp
  refine hK.out (upd s 9 (.pointer (some ⟨B,0,none⟩))) _ _ (by simp [ae,e5] <;> rfl) (kC (kB (kA (kX (fun _=>rfl) id))) hf.out)
 ·have e6:=((jC hf.out).2.2.2.1 (hd 6 rfl))
  have z:=(bO (dS nJ hf.out.1)).1 0
  go_simp
  refine hK.out (upd s 10 (.int .i64 x.ch.cap)) _ _ (by simp [ae,e6] <;> rfl) (kD (kX (fun _=>rfl) id) hf.out)
 ·have e1:=(hf.out.2.2.1 (hd 1 rfl))
  have e7:=((jD hf.out).1 (hd 7 rfl))
  go_simp
  refine hK.out (upd s 11 (.bool (decide (((keptIn x.ch).length:Int)≤x.ch.cap)))) _ _ (by simp [ae,e1,e7] <;> rfl) (kD (kA (kX (fun _=>rfl) id)) hf.out)
 ·have e8:=((jD hf.out).2.1 (hd 8 rfl))
  go_simp
  refine hK.out (upd s 2 (.bool (decide (((keptIn x.ch).length:Int)≤x.ch.cap)))) _ _ (by simp [ae,e8] <;> rfl) (kD (kB (fun _=>fun _=>rfl)) hf.out)
theorem zI (x:Wo) (a b d e:Option Addr) (p q r v0 B:Nat) (w:World) (H:LB w B x a b d e p q r v0) :
  Calls Tryz.prog 110 #[.agg #[.pointer (some ⟨B,0,none⟩)]] w fun r' w'=>r'=.returned (.bool (!x.hands.any (gN 1) || (((keptIn x.ch).length:Int) == x.ch.cap)))∧Below w.heap.size w w':=by
 have HH:=Lib.hid H
 clear H
 obtain ⟨q1,hq⟩:∃ q1,Hid (x.hands.any (gN 1)=q1):=⟨_,rfl⟩
 rw [hq.out]
 go_enter Tryz.func110,Tryz.ntmps110
 go_wp2_with fail
 generalize lV:World.alloc w _=w5
 have Cw:hp w5 w.heap.size=some (.cells #[.pointer (some ⟨B,0,none⟩)] 97):=by rw [← lV];exact heap_alloc_new _ _
 have ll:Below w.heap.size w w5:=by rw [← lV];exact aQ _ _
 clear lV
 have nJ:=(HH.out.on ll).box
 refine bI [[],[0],[0,1],[0,1,2],[0,1,2,3],[0,1,2,3,4],[0,1,2,3],[0,1,2,3,6],[0,1,2,3,6,7],[0,1,2,3,6,7,8],[0,1,2,3,6,7,8,9],[0,1,2,3,6,7,8,9,10],qB [8,9,10,11],qB [8,9,10,11,12],qB [8,9,10,11,12,13]] [3,4,5,6,7,8,9,10,11,12,13,14,15,16,2] (fun l s wx=>(Below w5.heap.size w5 wx)∧(l 0=true→s 3=.agg #[.pointer (some ⟨B,0,none⟩)])∧(l 1=true→s 4=.bool q1)∧(l 2=true→s 5=.bool (!q1))∧(l 3=true→s 6=.bool (!q1))∧(l 4=true→q1=true→s 7=.agg #[.pointer (some ⟨B,0,none⟩)])∧(l 5=true→q1=true→s 8=.int .i64 (keptIn x.ch).length)∧(l 6=true→q1=true→s 9=.pointer (some ⟨w.heap.size,0,none⟩))∧(l 7=true→q1=true→s 10=.pointer (some ⟨B,0,none⟩))∧(l 8=true→q1=true→s 11=.pointer (some ⟨B,0,none⟩))∧(l 9=true→q1=true→s 12=.pointer (some ⟨B,0,none⟩))∧(l 10=true→q1=true→s 13=.pointer (some ⟨B,0,none⟩))∧(l 11=true→q1=true→s 14=.int .i64 x.ch.cap)∧(l 12=true→q1=true→s 15=.bool (((keptIn x.ch).length:Int) == x.ch.cap))∧(l 13=true→s 16=.bool (!q1 || (((keptIn x.ch).length:Int) == x.ch.cap)))∧(l 14=true→s 2=.bool (!q1 || (((keptIn x.ch).length:Int) == x.ch.cap)))) (by kernel_rfl) (by kernel_rfl) (by kernel_rfl) (fun s=>by (simp only [fill,fC,List.setIfInBounds_toArray,List.set_cons_zero,List.set_cons_succ];rfl)) (fun s=>⟨(Below.refl _ _).drew,nB,nB,nB,nB,nB,nB,nB,nB,nB,nB,nB,nB,nB,nB,nB⟩) ?_ ?_
 refine ⟨?_,?_,?_,?_,?_,?_,?_,?_,?_,?_,?_,?_,?_,?_,?_,trivial⟩;iterate 15 (intro l s wx hl hd hn hf K hK;rotate_left)
 ·intro l s w6 kK hf
  have ec:=(jC (jD hf)).2.2.2 (kK 14 rfl)
  have hb6:Below w5.heap.size w5 w6:=hf.1
  simp only [ec]
  clear ec hf kK
  go_wp2
  go_ret
  exact ⟨rfl,ll.trans (hb6.mono ll.size)⟩
 ·have z:=dS Cw hf.out.1
  have OC:=(bO z).1 0
  go_simp
  refine hK.out (upd s 3 (.agg #[.pointer (some ⟨B,0,none⟩)])) _ _ (by simp [ae] <;> rfl) (kA (kX (fun _=>rfl) id) hf.out)
 ·have e0:=(hf.out.2.1 (hd 0 rfl))
  go_simp
  go_at_call 160
  refine (mF x a b d e p q r v0 B _ ((HH.out.on ll).on hf.out.1) 1).mono ?_
  rintro _ wy ⟨rfl,hE⟩
  rw [hq.out]
  refine hK.out (upd s 4 (.bool q1)) _ _ (by simp [ae,e0] <;> rfl) ⟨bT hf.out.1 hE,hf.out.2.1,fun _=>rfl,nU (hn 2 rfl),nU (hn 3 rfl),nU (hn 4 rfl),nU (hn 5 rfl),nU (hn 6 rfl),nU (hn 7 rfl),nU (hn 8 rfl),nU (hn 9 rfl),nU (hn 10 rfl),nU (hn 11 rfl),nU (hn 12 rfl),nU (hn 13 rfl),nU (hn 14 rfl)⟩
 ·have e1:=(hf.out.2.2.1 (hd 1 rfl))
  go_simp
  refine hK.out (upd s 5 (.bool (!q1))) _ _ (by simp [ae,e1] <;> rfl) (kB (kA (kX (fun _=>rfl) id)) hf.out)
 ·have e2:=(hf.out.2.2.2.1 (hd 2 rfl))
  go_simp
  refine hK.out (upd s 6 (.bool (!q1))) _ _ (by simp [ae,e2] <;> rfl) (kC (kX (fun _=>rfl) id) hf.out)
 ·have e3:=(hf.out.2.2.2.2.1 (hd 3 rfl))
  cases hG:(q1) with
  | true =>
   rw [hG] at e3
   have z:=dS Cw hf.out.1
   have OC:=(bO z).1 0
   go_simp
   refine hK.out (upd s 7 (.agg #[.pointer (some ⟨B,0,none⟩)])) _ _ (by simp [ae,e3] <;> rfl) (kC (kA (kX (fun _ _=>rfl) id)) hf.out)
  | false =>
   rw [hG] at e3
   go_simp
   refine hK.out (upd s 7 (undef)) _ _ (by simp [ae,e3] <;> rfl) (kC (kA (kX (fun _ h=>Bool.noConfusion (h.symm.trans hG)) id)) hf.out)
 ·have e3:=(hf.out.2.2.2.2.1 (hd 3 rfl))
  cases hG:(q1) with
  | true =>
   rw [hG] at e3
   have e4:=((jC hf.out).2.1 (hd 4 rfl)) hG
   go_simp
   go_at_call 159
   refine (nN x a b d e p q r v0 B _ ((HH.out.on ll).on hf.out.1)).mono ?_
   rintro _ wy ⟨rfl,hE⟩
   refine hK.out (upd s 8 (.int .i64 (keptIn x.ch).length)) _ _ (by simp [ae,e3,e4] <;> rfl) (kX (bT hf.out.1 hE) (kC (kA (kX (fun _ _=>rfl) (kC (kB (kX (nU (hn 12 rfl)) (kX (nU (hn 13 rfl)) (fun _=>nU (hn 14 rfl))))))))) hf.out)
  | false =>
   rw [hG] at e3
   go_simp
   refine hK.out (upd s 8 (undef)) _ _ (by simp [ae,e3] <;> rfl) (kC (kB (kX (fun _ h=>Bool.noConfusion (h.symm.trans hG)) id)) hf.out)
 ·have e3:=(hf.out.2.2.2.2.1 (hd 3 rfl))
  cases hG:(q1) with
  | true =>
   rw [hG] at e3
   go_simp
   refine hK.out (upd s 9 (.pointer (some ⟨w.heap.size,0,none⟩))) _ _ (by simp [ae,e3] <;> rfl) (kC (kB (kA (kX (fun _ _=>rfl) id))) hf.out)
  | false =>
   rw [hG] at e3
   go_simp
   refine hK.out (upd s 9 (undef)) _ _ (by simp [ae,e3] <;> rfl) (kC (kB (kA (kX (fun _ h=>Bool.noConfusion (h.symm.trans hG)) id))) hf.out)
 ·have e3:=(hf.out.2.2.2.2.1 (hd 3 rfl))
  cases hG:(q1) with
  | true =>
   rw [hG] at e3
   have e6:=((jC hf.out).2.2.2.1 (hd 6 rfl)) hG
   have z:=(bO (dS Cw hf.out.1)).1 0
   go_simp
   refine hK.out (upd s 10 (.pointer (some ⟨B,0,none⟩))) _ _ (by simp [ae,e3,e6] <;> rfl) (kD (kX (fun _ _=>rfl) id) hf.out)
  | false =>
   rw [hG] at e3
   go_simp
   refine hK.out (upd s 10 (undef)) _ _ (by simp [ae,e3] <;> rfl) (kD (kX (fun _ h=>Bool.noConfusion (h.symm.trans hG)) id) hf.out)
 ·have e3:=(hf.out.2.2.2.2.1 (hd 3 rfl))
  cases hG:(q1) with
  | true =>
   rw [hG] at e3
   have e7:=((jD hf.out).1 (hd 7 rfl)) hG
   go_simp
   refine hK.out (upd s 11 (.pointer (some ⟨B,0,none⟩))) _ _ (by simp [ae,e3,e7] <;> rfl) (kD (kA (kX (fun _ _=>rfl) id)) hf.out)
  | false =>
   rw [hG] at e3
   go_simp
   refine hK.out (upd s 11 (undef)) _ _ (by simp [ae,e3] <;> rfl) (kD (kA (kX (fun _ h=>Bool.noConfusion (h.symm.trans hG)) id)) hf.out)
 ·have e3:=(hf.out.2.2.2.2.1 (hd 3 rfl))
  cases hG:(q1) with
  | true =>
   rw [hG] at e3
   have e8:=((jD hf.out).2.1 (hd 8 rfl)) hG
   go_simp
   refine hK.out (upd s 12 (.pointer (some ⟨B,0,none⟩))) _ _ (by simp [ae,e3,e8] <;> rfl) (kD (kB (kX (fun _ _=>rfl) id)) hf.out)
  | false =>
   rw [hG] at e3
   go_simp
   refine hK.out (upd s 12 (undef)) _ _ (by simp [ae,e3] <;> rfl) (kD (kB (kX (fun _ h=>Bool.noConfusion (h.symm.trans hG)) id)) hf.out)
 ·have e3:=(hf.out.2.2.2.2.1 (hd 3 rfl))
  cases hG:(q1) with
  | true =>
   rw [hG] at e3
   have e9:=((jD hf.out).2.2.1 (hd 9 rfl)) hG
   go_simp
   refine hK.out (upd s 13 (.pointer (some ⟨B,0,none⟩))) _ _ (by simp [ae,e3,e9] <;> rfl) (kD (kB (kA (kX (fun _ _=>rfl) id))) hf.out)
  | false =>
   rw [hG] at e3
   go_simp
   refine hK.out (upd s 13 (undef)) _ _ (by simp [ae,e3] <;> rfl) (kD (kB (kA (kX (fun _ h=>Bool.noConfusion (h.symm.trans hG)) id))) hf.out)
 ·have e3:=(hf.out.2.2.2.2.1 (hd 3 rfl))
  cases hG:(q1) with
  | true =>
   rw [hG] at e3
   have e10:=((jD hf.out).2.2.2.1 (hd 10 rfl)) hG
   have z:=(bO (dS nJ hf.out.1)).1 0
   go_simp
   refine hK.out (upd s 14 (.int .i64 x.ch.cap)) _ _ (by simp [ae,e3,e10] <;> rfl) (kD (kC (kX (fun _ _=>rfl) id)) hf.out)
  | false =>
   rw [hG] at e3
   go_simp
   refine hK.out (upd s 14 (undef)) _ _ (by simp [ae,e3] <;> rfl) (kD (kC (kX (fun _ h=>Bool.noConfusion (h.symm.trans hG)) id)) hf.out)
 ·have e3:=(hf.out.2.2.2.2.1 (hd 3 rfl))
  cases hG:(q1) with
  | true =>
   rw [hG] at e3
   have e5:=((jC hf.out).2.2.1 (hd 5 rfl)) hG
   have e11:=((jC (jD hf.out)).1 (hd 11 rfl)) hG
   go_simp
   refine hK.out (upd s 15 (.bool (((keptIn x.ch).length:Int) == x.ch.cap))) _ _ (by simp [ae,e3,e5,e11] <;> rfl) (kD (kC (kA (kX (fun _ _=>rfl) id))) hf.out)
  | false =>
   rw [hG] at e3
   go_simp
   refine hK.out (upd s 15 (undef)) _ _ (by simp [ae,e3] <;> rfl) (kD (kC (kA (kX (fun _ h=>Bool.noConfusion (h.symm.trans hG)) id))) hf.out)
 ·have e3:=(hf.out.2.2.2.2.1 (hd 3 rfl))
  have e12:=((jC (jD hf.out)).2.1 (hd 12 rfl))
  cases hG:(q1) with
  | true =>
   rw [hG] at e3
   replace e12:=e12 hG
   go_simp
   refine hK.out (upd s 16 (.bool (((keptIn x.ch).length:Int) == x.ch.cap))) _ _ (by simp [ae,e3,e12] <;> rfl) (kD (kC (kB (kX (fun _=>by rw [show (upd s 16 (.bool (((keptIn x.ch).length:Int) == x.ch.cap))) 16=.bool (((keptIn x.ch).length:Int) == x.ch.cap) from rfl,hG];rfl) id))) hf.out)
  | false =>
   clear e12
   rw [hG] at e3
   go_simp
   refine hK.out (upd s 16 (.bool true)) _ _ (by simp [ae,e3] <;> rfl) (kD (kC (kB (kX (fun _=>by rw [show (upd s 16 (.bool true)) 16=.bool true from rfl,hG];rfl) id))) hf.out)
 ·have e13:=((jC (jD hf.out)).2.2.1 (hd 13 rfl))
  go_simp
  refine hK.out (upd s 2 (.bool (!q1 || (((keptIn x.ch).length:Int) == x.ch.cap)))) _ _ (by simp [ae,e13] <;> rfl) (kD (kC (kB (kA (fun _=>fun _=>rfl)))) hf.out)
theorem zJ (x:Wo) (a b d e:Option Addr) (p q r v0 B:Nat) (w:World) (H:LB w B x a b d e p q r v0) :
  Calls Tryz.prog 111 #[.agg #[.pointer (some ⟨B,0,none⟩)]] w fun r' w'=>r'=.returned (.bool (!x.hands.any (gN 2) || ((keptIn x.ch).length == 0 && !x.hands.any (gN 1))))∧Below w.heap.size w w':=by
 have HH:=Lib.hid H
 clear H
 obtain ⟨q1,hq1⟩:∃ q1,Hid (x.hands.any (gN 1)=q1):=⟨_,rfl⟩
 obtain ⟨q2,hq2⟩:∃ q2,Hid (x.hands.any (gN 2)=q2):=⟨_,rfl⟩
 obtain ⟨kl,hkl⟩:∃ kl,Hid ((keptIn x.ch).length=kl):=⟨_,rfl⟩
 rw [hq1.out,hq2.out,hkl.out]
 have e0:(((kl:Nat):Int) == 0)=(kl == 0):=by rw [Bool.eq_iff_iff];simp
 go_enter Tryz.func111,Tryz.ntmps111
 go_wp2_with fail;refine ax w zB fun bb=>?_;refine (mF x a b d e p q r v0 B _ (HH.out.on bb) 2).mono ?_;rintro _ w1 ⟨rfl,ah⟩;obtain ⟨aW,ay,zz⟩:=Px bb ah (b:=w.heap.size);(try simp at ay);(try simp [go_sem] at zz);replace bX:=OX zz;clear zz ah bb
 rw [hq2.out]
 cases q2 with
 | false =>
  go_wp2
  go_ret
  exact ⟨rfl,by exact zB⟩
 | true =>
  go_wp2_with fail;refine ax w zB fun bb=>?_;refine (nN x a b d e p q r v0 B _ (HH.out.on bb)).mono ?_;rintro _ w2 ⟨rfl,hbw2⟩;obtain ⟨dE,bu,zz⟩:=Px bb hbw2 (b:=w.heap.size);(try simp at bu);(first|simp [go_sem,bX] at zz|simp [go_sem] at zz|skip);replace bX:=OX zz;clear zz hbw2 bb
  rw [hkl.out]
  cases hk0:(kl == 0) with
  | false =>
   rw [hk0] at e0
   go_wp2
   go_ret
   exact ⟨bF (by rw [hk0];rfl),by exact zB⟩
  | true =>
   rw [hk0] at e0
   go_wp2_with fail;refine ax w zB fun bb=>?_;refine (mF x a b d e p q r v0 B _ (HH.out.on bb) 1).mono ?_;rintro _ w3 ⟨rfl,aO⟩;obtain ⟨ig,df,zz⟩:=Px bb aO (b:=w.heap.size);(try simp at df);(first|simp [go_sem,bX] at zz|simp [go_sem] at zz|skip);replace bX:=OX zz;clear zz aO bb
   rw [hq1.out]
   go_wp2
   go_ret
   exact ⟨bF (by rw [hk0];cases q1 <;> rfl),by exact zB⟩
end
end Go.Proofs.YtffhjmepfojhnaaGreat
