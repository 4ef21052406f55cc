/-
  Whether a step of the program waits: as the reference's; lists lie in memory and hold at most as much as memory can hold.
-/
import Derived.Test.YtffhjmepfojhnaaGreatS28
import Derived.Test.YtffhjmepfojhnaaGreatS36
import Derived.Test.YtffhjmepfojhnaaGreatS37
import Derived.Test.YtffhjmepfojhnaaGreatS33
import Derived.RangeFuncNested
import Derived.RangeFuncBound
import Derived.RangeFuncCalls
import Derived.RangeFuncLeaves
import Derived.RangeFuncBox
import Derived.Shelf.Abstract
import Derived.Shelf.RegionOpen
import Derived.WalkKit
import Derived.OwnWalkIn
import Derived.TacticsInMore
import Derived.LoopNIn
import Derived.LoopIn
import Derived.Maps.AppendAt
import Derived.Test.YtffhjmepfojhnaaGreatS29
import Derived.Test.YtffhjmepfojhnaaGreatS32
set_option maxRecDepth 100000
set_option maxHeartbeats 4000000
set_option linter.unusedSimpArgs false
set_option linter.unusedVariables false
namespace Go.Proofs.YtffhjmepfojhnaaGreat
open _root_.Go.Proofs.Tryz
section
open Go.RowKit
attribute [local simp] aP
attribute [local go_sem ↓] aQ bF aY bY aZ bZ aX bB aN aU
theorem GI (c:Ch) (h:Ha) (a b:Option Addr) (p q:Nat) (w:World) (h1:fA w w a c.cells) (u:a=none→p=0) (m:fD w w b c.words) (y:b=none→q=0) (z:c.cells.length≤maxLen) (A:c.words.length≤maxLen) :
  Calls prog 158 #[.agg (aF c (.slice a c.cells p) (.slice b c.words q)),.agg (aB h)] w fun r w'=>r=.returned (.bool (gL (fZ c h)))∧Below w w w':=by
 rw [← Oq]
 have hp:h.pos≤0∨(1≤h.pos∧h.pos≤8)∨(9≤h.pos∧h.pos≤15)∨(16≤h.pos∧h.pos≤22)∨(23≤h.pos∧h.pos≤25)∨26≤h.pos:=by omega
 rcases hp with hp|hp|hp|hp|hp|hp
 ·rw [tV c h (.inl tO)];exact D8 c h a b p q w hp
 ·rw [tV c h (.inl tO)];exact D9 c h a b p q w hp
 ·have e:iO c h=eF c h:=by unfold iO;rw [show dA h.pos 1 8=false by simp [dA];omega,show dA h.pos 9 15=true by simp [dA];omega];rfl
  rw [e,← qd c h _ tO (FV c h)]
  exact D5 _ c h a b p q w h1 u m y (fun a b p q w h1 u m y=>qW c h a b p q w h1 u m y z A) hp
 ·have e:iO c h=dQ c h:=by unfold iO;rw [show dA h.pos 1 8=false by simp [dA];omega,show dA h.pos 9 15=false by simp [dA];omega,show dA h.pos 16 22=true by simp [dA];omega];rfl
  rw [e,← qd c h _ tO (FW c h)]
  exact D6 _ c h a b p q w h1 u m y (fun a b p q w h1 u m y=>qY c h a b p q w h1 u m y z A) hp
 ·have e:iO c h=bV c h:=by unfold iO;rw [show dA h.pos 1 8=false by simp [dA];omega,show dA h.pos 9 15=false by simp [dA];omega,show dA h.pos 16 22=false by simp [dA];omega];rfl
  rw [e,← qd c h _ tO (FX c h)]
  exact D7 _ c h a b p q w h1 u m y (fun a b p q w h1 u m y=>qR c h a b p q w h1 u m y z A) hp
 ·rw [tV c h (.inr hp)];exact DC c h a b p q w hp
end
section
open Go.RowKit
attribute [local simp] aP
attribute [local go_sem ↓] aQ bF aY bY aZ bZ aX bB aN aU
def qw (c:Ch) (h:Ha):Bool:=h.pos == 23 && gL (fZ c h)
theorem BB (c:Ch) (h:Ha) (a b:Option Addr) (p q:Nat) (w:World) (h1:fA w w a c.cells) (I:a=none→p=0) (F:fD w w b c.words) (J:b=none→q=0) (G:c.cells.length≤maxLen) (H:c.words.length≤maxLen) :
  Calls prog 107 #[.agg (aF c (.slice a c.cells p) (.slice b c.words q)),.agg (aB h)] w fun r w'=>r=.returned (.bool (qw c h))∧Below w w w':=by
 have u:=aA fun (W:World) (z:Below w w W)=>GI c h a b p q W ((h1.below z).more z.size) I ((F.below z).more z.size) J G H
 obtain ⟨D,m⟩:∃ D,Hid (D=gL (fZ c h)):=⟨_,rfl⟩
 rw [← m.out] at u
 clear h1 F G H
 cases y:(h.pos == 23) with
 | false =>
  have e:qw c h=false:=by unfold qw;rw [y];rfl
  rw [e]
  clear e m u
  go_enter func107,ntmps107
  go_wp2
  go_ret
  exact ⟨rfl,by exact zB⟩
 | true =>
  have e:qw c h=D:=by unfold qw;rw [y,m.out];rfl
  rw [e]
  clear e m
  go_enter func107,ntmps107
  go_wp2_with (go_at_call 158;refine aK w zB fun E=>?_;refine (u.out _ E).mono ?_;rintro _ K ⟨rfl,A⟩)
  go_ret
  exact ⟨rfl,bT E A⟩
end
section
open Go.RowKit Go.Shelf
attribute [local go_sem] Oper.semAt_some
attribute [local simp] aP
attribute [local go_sem ↓] aQ bF aY bY aZ bZ aX bB aN aU
def uP (n B:Nat) (W W':World):Prop:=Below n W W'∧hp W' B=hp W B
theorem sP {n B:Nat} {X Y Z:World} (h:uP n B X Y) (k:uP n B Y Z):uP n B X Z:=⟨h.1.trans k.1,k.2.trans h.2⟩
theorem abide {J:List Int→World→Prop} {B:Nat} {t:List Int} {X Y:World} (q:AbidesFrom B J) (h:J t X) (m:Below X X Y):J t Y:=q t X Y none h ⟨m.os,m.tape,m.output,m.size,fun k r _=>m.block k r⟩ (fun _ e=>nomatch e)
theorem Qb {f:Ending} {A B:Prop} (h:(f=.returned (.bool true)∧A)∨(f=.returned (.bool false)∧B)):∃ b:Bool,f=.returned (.bool b)∧Hid ((b=true∧A)∨(b=false∧B)):=by
 rcases h with ⟨rfl,h⟩|⟨rfl,h⟩
 ·exact ⟨true,rfl,.inl ⟨rfl,h⟩⟩
 ·exact ⟨false,rfl,.inr ⟨rfl,h⟩⟩
theorem GJ (n:Nat) (hn:1≤n) (l A K n0:Nat) (x:Wo) (a b d e:Option Addr) (p q r s:Nat) (J Jx:List Int→World→Prop) (W:World) (m:jk x) (ah:1≤x.hands.length)
  (hY:∀ E y X,J E X→E.length<x.hands.length→YieldAt Fence.wide (n - 1) prog l #[.int .i64 y] X fun f X'=>(f=.returned (.bool true)∧J (E ++ [y]) X'∧uP n0 A X X')∨(f=.returned (.bool false)∧Jx (E ++ [y]) X'))
  (hJ:AbidesFrom W J) (V:hp W A=some (.cells #[.pointer (some ⟨K,0,none⟩)] 82)) (a1:hp W K=some (.cells (iA x (.slice a x.ch.cells p) (.slice b x.ch.words q) (.slice d x.hands r) (.slice e x.deals s)) 35)) (ac:K<n0) (al:n0≤W.heap.size) (S:ic W n0 x a b d e) (N:jl x a b d e p q r s) (T:J [] W) :
  CallsIn Fence.wide n prog 106 #[.func (.yield l) #[] #[],.pointer (some ⟨A,0,none⟩)] W fun f X=>(∃ v,f=.returned v)∧((∃ ys,ys=iW x x.hands∧J ys X)∨(∃ E,(∃ k,k≤x.hands.length∧E=iW x k)∧Jx E X)):=by
 obtain ⟨s1,s2,s3,s4⟩:=S
 obtain ⟨n1,n2,n3,n4⟩:=N
 obtain ⟨b3,o3,rfl,aa,ab⟩:∃ b o,d=some ⟨b,o,none⟩∧b<n0∧Hid (∀ i j,i<x.hands.length→j<14→W.cell? ⟨b,o+i*14+j,none⟩=some (dY x.hands i j)):=by
  rcases s3 with h|h
  ·omega
  ·exact h
 have ap:A<W.heap.size:=(bO V).2.2
 have a9:∀ (i:Nat) (X:World),i<x.hands.length→Below n0 W X→(jU (.pointer (some ⟨b3,o3+i*14,none⟩))).run prog X=.ok (.agg (aB (aL x i))) X:=fun i X hi hX=>jh _ fun j hj=>by rw [show (aB (aL x i)).getD j (.int .i64 0)=dY x.hands i j by simp [dY,aL],← ab.out i j hi hj];exact World.cell?_of_block (hX.block b3 aa)
 refine callsIn_of_wp func106 rfl trivial ?_ rfl
 simp only [ntmps106,List.size_toArray,List.length_cons,List.length_nil,Nat.reduceAdd,Nat.reduceSub,Array.replicate_succ,Array.replicate_zero,List.push_toArray,List.append_toArray,List.nil_append,List.cons_append]
 have au:W.cell? ⟨A,0,none⟩=some (.pointer (some ⟨K,0,none⟩)):=(bO V).1 0
 have av:W.cell? ⟨K,6,none⟩=some (.slice (some ⟨b3,o3,none⟩) x.hands r):=(bO a1).1 6
 gi_wp2
 gi_loopw [10] (fun i wr=>∃ k:Nat,k≤x.hands.length∧i=.int .i64 k∧J (iW x k) wr∧uP n0 A W wr∧W≤wr.heap.size)
  (fun i _=>x.hands.length - (intOf i).toNat)
 case atStart=>exact ⟨0,Nat.zero_le _,rfl,T,⟨Below.refl _ _,rfl⟩,Nat.le_refl _⟩
 case round =>
  obtain ⟨k,hk,rfl,a3,D,ao⟩:=hrel
  by_cases ad:k<x.hands.length
  ·obtain ⟨T,hh⟩:∃ T,Hid (T=aL x k):=⟨_,rfl⟩
   have hL:=a9 k wr ad D.1
   rw [← hh.out] at hL
   have ai:(0:Int)≤(k:Int):=by omega
   have aj:(k:Int)<(x.hands.length:Int):=by omega
   have U:wr.cell? ⟨A,0,none⟩=some (.pointer (some ⟨K,0,none⟩)):=(bO (D.2.trans V)).1 0
   have af:=(D.1.block K ac).trans a1
   have O:wrap64 ((k:Int)+1)=((k+1:Nat):Int):=by have:=m.2.2.1;unfold wrap64;omega
   have ak:Tryz.prog.follows .mixedOrders=true:=by kernel_rfl
   have a7:A<wr.heap.size:=by omega
   gi_wp2
   generalize M:World.alloc wr _=z
   have ag:hp z.drew wr=some (.cells (aB T) 49):=by rw [← M];exact heap_alloc_new _ _
   have L:Below wr wr z:=by rw [← M];exact aS _ _
   have am:z=wr.heap.size+1:=by rw [← M];exact wL _ _
   clear M
   have ar:z.drew.cell? ⟨wr,0,none⟩=some (.int .i64 T.pos):=(bO ag).1 0
   have aq:z.drew.cell? ⟨A,0,none⟩=some (.pointer (some ⟨K,0,none⟩)):=(L.cell (p:=⟨A,0,none⟩) a7).trans U
   have a5:=Bc (w:=z.drew) ((L.block K tO).trans af)
   have Y:Below wr wr z.drew:=L.drew
   have R:uP n0 A wr z.drew:=⟨Y.mono tO,L.block A a7⟩
   obtain ⟨tb,Z⟩:∃ tb,Hid (tb=qw x.ch T):=⟨_,rfl⟩
   have H:pz x k=tb:=by unfold pz;rw [← hh.out,Z.out];rfl
   have F:=aA (BB x.ch T a b p q z.drew ((s1.below (D.1.trans R.1)).more (by show n0≤z.heap.size;omega)) n1 ((s2.below (D.1.trans R.1)).more (by show n0≤z.heap.size;omega)) n2 (by have:=m.1;unfold maxLen;omega) (by have:=m.2.1;unfold maxLen;omega))
   rw [← Z.out] at F
   have HN:Hid (∀ I:World,Below z.drew.heap.size z.drew I→Below wr wr I∧uP n0 A wr I∧J (iW x k) I∧wr≤I.heap.size):=fun I u=>by
    have G:Below wr wr I:=Y.trans (u.mono (by show wr≤z.heap.size;omega))
    exact ⟨G,sP R ⟨u.mono (by show n0≤z.heap.size;omega),u.block A (by show A<z.heap.size;omega)⟩,abide hJ a3 G,G.size⟩
   clear Y R Z hL U
   cases tb with
   | false =>
    first|gi_region_with_o (first|(refine ⟨trivial,?_⟩;gi_at_call 107;refine (callsIn_wide.2 F.out).mono ?_;rintro _ I ⟨rfl,u⟩)|(refine ⟨fun _ h=>(by cases h),?_⟩))|fail
    all_goals
     obtain ⟨G,a0,a2,ae⟩:=HN.out _ u
     clear a5 F u HN
     gi_wp2
     go_roundw
     all_goals first|exact ⟨k+1,by omega,by rw [O],by rw [zK H];exact a2,sP D a0,by omega⟩|(rw [O];simp [intOf];omega)
   | true =>
    gi_region_with_o (first|(refine ⟨trivial,?_⟩;gi_at_call 107;refine (callsIn_wide.2 F.out).mono ?_;rintro _ I ⟨rfl,u⟩;obtain ⟨fn,tmps,assign,body,hy,hR⟩:=hY (iW x k) k I (HN.out _ u).2.2.1 (by have:=oP x k;omega))|(refine hR.mono ?_;rintro f W3 hD;obtain ⟨bv,rfl,hE⟩:=Qb hD))
    all_goals
     obtain ⟨G,a0,a2,ae⟩:=HN.out _ u
     clear a5 F u HN
     rcases hE.out with ⟨rfl,a8,a6⟩|⟨rfl,a4⟩
     ·have an:=a6.1.size
      gi_wp2
      go_roundw
      all_goals first|exact ⟨k+1,by omega,by rw [O],by rw [rM H];exact a8,sP (sP D a0) a6,by omega⟩|(rw [O];simp [intOf];omega)
     ·gi_wp2
      refine bodyPost_ret (results_none rfl _ _ _) rfl ?_
      exact ⟨⟨_,rfl⟩,.inr ⟨_,⟨k+1,by omega,(rM H).symm⟩,a4⟩⟩
  ·obtain rfl:k=x.hands.length:=by omega
   gi_wp2
   go_end0
   exact ⟨⟨_,rfl⟩,.inl ⟨_,rfl,a3⟩⟩
end
section
open Go.RowKit Go.Shelf
attribute [local go_sem] Oper.semAt_some
theorem Qc {F:Fence} {n:Nat} {P:Program} {f:FuncId} {args:Array Value} {W:World} {Q:Ending→World→Prop} (w:World) (h:Below w w W) (k:Below w w W→CallsIn F n P f args W Q):CallsIn F n P f args W Q:=k h
theorem Ef (B:Nat) (w:World):Calls prog 56 #[.pointer (some ⟨B,0,none⟩)] w fun r w'=>r=.returned (.func (.func 106) #[] #[.pointer (some ⟨w,0,none⟩)])∧w'=w.alloc (.cells #[.pointer (some ⟨B,0,none⟩)] 82):=by
 go_enter func56,ntmps56
 go_wp2
 go_ret
 exact ⟨rfl,rfl⟩
theorem Eg (w:World) (q r m:Obj):hp (((w.alloc q).alloc r).alloc m) (w+1+1)=some m:=by
 have h:=World.alloc_heap_new ((w.alloc q).alloc r) m
 rwa [World.size_alloc,World.size_alloc] at h
theorem Nh (w:World) (m q r:Obj):hp (((w.alloc m).alloc q).alloc r) w=some m:=by
 have h:=World.alloc_heap_new w m
 exact ((Below.heap_alloc _ _ _ (by simp;omega)).trans (Below.heap_alloc _ _ _ (by simp))).trans h
theorem ic.atP {w W:World} {x:Wo} {a b d e:Option Addr} (h:ic w w x a b d e) (m:Below w w W):ic W W x a b d e:=⟨(h.1.below m).more m.size,(h.2.1.below m).more m.size,(h.2.2.1.below m).more m.size,(h.2.2.2.below m).more m.size⟩
theorem BC (n:Nat) (R:1≤n) (A D n0:Nat) (x:Wo) (a b d e:Option Addr) (p q r s:Nat) (w:World) (m:jk x) (F:1≤x.hands.length) (E:hp w A=some (.cells #[.pointer (some ⟨D,0,none⟩)] 82)) (G:hp w D=some (.cells (iA x (.slice a x.ch.cells p) (.slice b x.ch.words q) (.slice d x.hands r) (.slice e x.deals s)) 35)) (H:D<n0) (u:n0≤w.heap.size) (S:ic w n0 x a b d e) (N:jl x a b d e p q r s) :
  SeqStopsK Fence.wide n prog 106 #[.pointer (some ⟨A,0,none⟩)] (fun y:Int=>#[Value.int .i64 y]) (uP n0 A) (fun ys=>ys=iW x x.hands) (fun I=>∃ k,k≤x.hands.length∧I=iW x k) x.hands w:=fun l J K W z M _ O L =>
 GJ n R l A D n0 x a b d e p q r s J K W m F O M ((z.block A (bO E).2.2).trans E) ((z.block D tO).trans G) H (Nat.le_trans u z.size) ⟨S.1.below (z.mono u),S.2.1.below (z.mono u),S.2.2.1.below (z.mono u),S.2.2.2.below (z.mono u)⟩ N L
theorem yC (x:Wo) (a b d e:Option Addr) (p q r s:Nat) (w:World) (h:ic w w x a b d e) (z:jl x a b d e p q r s) (m:jk x) (hk:bC x=true) :
  Calls prog 16 #[kZ x a b d e p q r s] w fun r' w'=>(∃ v,r'=.returned v∧aG w' w v (iW x x.hands))∧Below w w w':=by
 obtain ⟨i0,hi,a5,a6,a7⟩:=info_parts kL
 refine (callsIn_wide (n:=3)).1 ?_
 refine callsIn_of_wp_marks func16 rfl trivial ?_ rfl
 simp only [ntmps16,List.size_toArray,List.length_cons,List.length_nil,Nat.reduceAdd,Nat.reduceSub,Array.replicate_succ,Array.replicate_zero,List.push_toArray,List.append_toArray,List.nil_append,List.cons_append]
 gi_wp2_with (first|(refine ⟨trivial,?_⟩;gi_at_call 49;refine Qc w zB fun X=>?_;refine (callsIn_wide.2 (fU x a b d e p q r s _ (h.atP X) m)).mono ?_;rintro _ F ⟨rfl,E⟩;rw [hk];have Z:Below w w F:=bT X E;have a9:=(E.block w (by simp;omega)).trans (Nh w _ _ _);have a8:Boxed F (w+1+1) 29 (.slice (some ⟨w+1,0,none⟩) 0 0):=(E.block (w+1+1) (by simp)).trans (Eg w _ _ _);have o0:F.ownsRow (w+1) 2 1 (.slice (some ⟨w+1,0,none⟩) 0 0) 0 []:=own_below (own_below (gJ _ _ _ _ (w+1) (by simp) (by simp)) (aS _ _)) E;have a2:=E.size;(simp at a2);clear E X)|(refine ⟨trivial,?_⟩;gi_at_call 56;refine (callsIn_wide.2 (Ef w _)).mono ?_;rintro _ w2 ⟨rfl,a4⟩))
 clear a4
 have O:1≤x.hands.length:=by
  simp [bC,ik] at hk
  omega
 have G:Below w w (F.alloc (.cells #[.pointer (some ⟨w,0,none⟩)] 82)):=bA Z
 have bN:=Boxed.new F 82 (.pointer (some ⟨w,0,none⟩))
 have U:=(Below.heap_alloc F (.cells #[.pointer (some ⟨w,0,none⟩)] 82) w tO).trans a9
 have S2:ic (F.alloc (.cells #[.pointer (some ⟨w,0,none⟩)] 82)) (w+1) x a b d e:=⟨(h.1.below G).more tO,(h.2.1.below G).more tO,(h.2.2.1.below G).more tO,(h.2.2.2.below G).more tO⟩
 refine wpIn_rangeFunc_ownG rfl tO (gf:=106) (lb:=#[.pointer (some ⟨F,0,none⟩)]) rfl trivial (enters_of func106 (by kernel_rfl) rfl)
  (BC (3 - 1) tO F w (w+1) x a b d e p q r s _ m O bN U tO (by simp;omega) S2 z) sP (fun W l o o' hl hW hc hw=>⟨belowK_b (w:=(F.alloc (.cells #[.pointer (some ⟨w,0,none⟩)] 82))) (by simp;omega) W l o o' hl hW hc hw,World.putObj_heap_other (by simp at hl;omega)⟩) (Below.refl _ _) (fun _=>rfl)
  (fun u W=>(∃ v,Boxed W (w+1+1) 29 v∧W.ownsRow (w+1) 2 1 v u.length (u.map (Value.int .i64))∧True)∧Boxed W F 82 (.pointer (some ⟨w,0,none⟩))∧Below w w W)
  (fun _ _ _=>False)
  (OwnFrom.and (Own.from (holdsRow_own (w+1) (w+1+1) 29 2 1 (fun u:List Int=>u.length) (fun u=>u.map (Value.int .i64)) (fun _ _=>True)) _) (OwnFrom.and (Own.from (boxed_own _ _ _) _) (ownFrom_below (Nat.le_refl _) (by simp;omega))))
  (fun _ _ _ _ _ hs _ _=>hs)
  ⟨⟨_,a8.alloc _,own_below o0 (aS _ _),trivial⟩,bN,G⟩
  (fun y=>{ tmps:=#[.agg #[x.ch.cap,x.ch.sent,x.ch.got,x.ch.fin,.slice a x.ch.cells p,.slice b x.ch.words q,.slice d x.hands r,.slice e x.deals s,x.now],.pointer (some ⟨w,0,none⟩),.slice none 0 0,.pointer (some ⟨w+1+1,0,none⟩),.int .i64 y,.slice (some ⟨w+1,0,none⟩) 0 0,.agg #[x.ch.cap,x.ch.sent,x.ch.got,x.ch.fin,.slice a x.ch.cells p,.slice b x.ch.words q,.slice d x.hands r,.slice e x.deals s,x.now],.bool true,.bool false,undef,.func (.func 106) #[] #[.pointer (some ⟨F,0,none⟩)],.int .i64 y,undef,undef,undef,undef,undef],defers:=[] }) ?assign ?body ?done ?stop
 case assign =>
  intro l y W K M
  gi_wp2
  exact M
 case body =>
  rintro l u y W ⟨⟨v,V,A,_⟩,H,Y⟩ ad
  have hc:=V.cell
  have ae:=m.2.2.1
  have aa:=H.lt
  have b1:u.length+1≤maxLen:=by unfold maxLen;omega
  have b2:(u.length+1)*8≤140737488355328:=by omega
  have b3:w.heap.size+1≤(W.alloc (.cells #[.int .i64 y] 2)).heap.size:=by rw [World.size_alloc];omega
  gi_wp2_with (gi_at_builtin;refine wpListIn_append_own _ rfl _ _ 29 rfl (w.heap.size+1) 2 i0 (.int .i64 0) 1 8 underlying29 hi a5 a6 a7 rfl (by decide) _ _ _ rfl (A.alloc _) ⟨W,0,none⟩ 1 1 [.int .i64 y] rfl rfl (cell_one_new _ _ _) (by simp [Value.oneCell']) b1 b2 b3 ?_)
  intro v' w3 J I _
  obtain ⟨g',L,rfl⟩:=ownsRow_succ J
  obtain ⟨T,a3,a1,a0,N⟩:=V.appended (by decide) A tO tO J I
  have ab:=T.cell
  have ac:=T.frozen
  have R:=((H.alloc _).kept I (H.not_row (by decide) A)).kept (grownBy_setCell' w3 (w+1+1) (.slice (some ⟨g',0,none⟩) (u.length+1) L)) (by simp;omega)
  gi_wp2
  exact ⟨a0.from _,⟨N,Eq.trans R (Eq.symm H)⟩,⟨_,a3,by simpa using a1,trivial⟩,R,Y.trans (N.mono tO)⟩
 case done =>
  rintro D ys W hD rfl ⟨⟨v,V,A,_⟩,H,Y⟩ M
  have hc:=V.cell
  gi_wp2
  refine ⟨by simp,.inl ⟨_,_,rfl,run_takeDeferred M,?_⟩⟩
  exact ⟨_,results_tmp rfl _ _ _,⟨v,rfl,aH (ownsRow_putObj A _ M rfl) tO⟩,Y.trans (belowK_b (w:=w) (Nat.le_refl _) W D _ _ (by simp at hD;omega) M rfl rfl)⟩
 case stop =>
  rintro D c u W _ _ h _
  exact h.elim
theorem yD (x:Wo) (a b d e:Option Addr) (p q r s:Nat) (w:World) (h:ic w w x a b d e) (z:jl x a b d e p q r s) (m:jk x) :
  Calls prog 16 #[kZ x a b d e p q r s] w fun K w'=>(∃ v,K=.returned v∧aG w' w v (fT x))∧Below w w w':=by
 cases y:bC x with
 | true =>
  rw [show fT x=iW x x.hands by simp [fT,y]]
  exact yC x a b d e p q r s w h z m y
 | false =>
  rw [show fT x=[] by simp [fT,y]]
  have F:=aA h
  clear h
  go_enter func16,ntmps16
  go_wp2_with fail
  refine aK w zB fun A=>?_
  refine (fU x a b d e p q r s _ (F.out.atP A) m).mono ?_
  rintro _ D ⟨rfl,u⟩
  rw [y]
  have E:hp D (w+1+1)=some (.cells #[.slice (some ⟨w+1,0,none⟩) 0 0] 29):=(u.block (w+1+1) (by simp)).trans (Eg w _ _ _)
  have J:aG D w (.slice (some ⟨w+1,0,none⟩) 0 0) []:=own_below (own_below (gJ _ _ _ _ (w+1) (by simp) (by simp)) (aS _ _)) u
  have H:Below w w D:=bT A u
  obtain ⟨L,G,I⟩:=bO E
  clear A u
  go_wp2
  go_ret
  exact ⟨⟨_,rfl,J⟩,by exact zB⟩
end
end Go.Proofs.YtffhjmepfojhnaaGreat
