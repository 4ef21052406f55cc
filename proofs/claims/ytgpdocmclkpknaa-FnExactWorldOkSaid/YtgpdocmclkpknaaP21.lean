/-
  A new world of the reference model, whatever is asked for; no condition.
  The program's NewWorld: what it answers; no condition.
  The contracts of WorldOk, NewWorld, Asked in the form that the laws' walks ask for; lists of at most 1048576 elements.
  How the arguments of the laws are opened: numbers, structs of numbers, and slices of these; no condition but that they can be read.
  How a channel is opened that is an argument of a law; no condition but that it can be read.
  How a call is opened that is an argument of a law; no condition but that it can be read.
-/
import Derived.Test.YtgpdocmclkpknaaP20
import Derived.Test.YtgpdocmclkpknaaP13
import Derived.Test.YtgpdocmclkpknaaP12
import Derived.Test.YtgpdocmclkpknaaP07
import Derived.Test.YtgpdocmclkpknaaRows
import Derived.Test.YtgpdocmclkpknaaP01
import Derived.ProofKit
import Derived.OpenShut
import Derived.ShutString
import Derived.ChangeOld
import Derived.Deep.Slices
import Derived.Deep.Fields
set_option linter.unusedSimpArgs false
set_option linter.unusedVariables false
namespace Go.Proofs.Ytgpdocmclkpknaa
open Go.RowKit
set_option linter.unusedSimpArgs false
attribute [local simp] bx_size
attribute [local go_sem ↓] zeroHand toLHand toVHand toSHand storeHandC
attribute [local go_sem] runSHand
theorem newWorld_out {cap tasks:Int} (h:inB cap 0 4=false∨inB tasks 1 6=false):newWorld cap tasks=(Wo.zero,false):=by
  unfold newWorld
  rcases h with h|h <;> simp [h]
set_option maxRecDepth 100000 in
set_option maxHeartbeats 4000000 in
theorem sNewWorld_no1 (cap tasks:Int) (w:World) (h:inB cap 0 4=false) :
    Calls Try.prog 11 #[.int .i64 cap,.int .i64 tasks] w fun r w'=>WordR w w' Wo.zero (.bool false) r:=by
  have el:newChan cap=Ch.zero:=by simp [newChan,h]
  go_enter Try.func11,Try.ntmps11
  go_wp2_with fail;refine bHit w (by exact zB) fun bb=>?_;refine (sNewChan_any cap _).mono ?_;rintro _ w1 ⟨⟨v1,v2,rfl,o1,o2⟩,hbw1⟩;have hCw1:Below w.heap.size w w1:=bT bb hbw1;have hsw1:=hbw1.size;(try simp at hsw1);have zz:=hQ hbw1 (b:=w.heap.size);(try simp [go_sem] at zz);(try clear z_w x_w f_w l_w);have z_w:=zz;clear zz;obtain ⟨x_w,f_w,l_w⟩:=bO z_w;clear hbw1 bb
  obtain ⟨va,vc,rfl,_⟩:=OCells.seg o1
  obtain ⟨vb,vd,rfl,_⟩:=OInts.seg o2
  clear o1 o2
  rw [el]
  simp only [Ch.zero,List.length_nil]
  go_wp2
  refine bodyPost_ret (v:=.tuple #[.agg #[.int .i64 0,.int .i64 0,.int .i64 0,.int .i64 0,.slice none 0 0,.slice none 0 0,.slice none 0 0,.slice none 0 0,.int .i64 0],.bool false]) (by simp [results,Try.results11,go_sem, *]) rfl ⟨⟨_,_,_,_,rfl,wown_zero _ _⟩,by exact zB⟩
set_option maxRecDepth 100000 in
set_option maxHeartbeats 4000000 in
theorem sNewWorld_no2 (cap tasks:Int) (w:World) (h:inB cap 0 4=true) (ht:inB tasks 1 6=false) :
    Calls Try.prog 11 #[.int .i64 cap,.int .i64 tasks] w fun r w'=>WordR w w' Wo.zero (.bool false) r:=by
  have el:(newChan cap).cells.length=40:=by simp [newChan,h]
  go_enter Try.func11,Try.ntmps11
  go_wp2_with fail;refine bHit w (by exact zB) fun bb=>?_;refine (sNewChan_any cap _).mono ?_;rintro _ w1 ⟨⟨v1,v2,rfl,o1,o2⟩,hbw1⟩;have hCw1:Below w.heap.size w w1:=bT bb hbw1;have hsw1:=hbw1.size;(try simp at hsw1);have zz:=hQ hbw1 (b:=w.heap.size);(try simp [go_sem] at zz);(try clear z_w x_w f_w l_w);have z_w:=zz;clear zz;obtain ⟨x_w,f_w,l_w⟩:=bO z_w;clear hbw1 bb
  obtain ⟨va,vc,rfl,_⟩:=OCells.seg o1
  obtain ⟨vb,vd,rfl,_⟩:=OInts.seg o2
  clear o1 o2
  rw [el]
  go_wp2_with (first|(go_at_call 26;refine (l1In_any _ _ _ _).mono ?_;rintro _ _ ⟨rfl,rfl⟩))
  refine bodyPost_ret (v:=.tuple #[.agg #[.int .i64 0,.int .i64 0,.int .i64 0,.int .i64 0,.slice none 0 0,.slice none 0 0,.slice none 0 0,.slice none 0 0,.int .i64 0],.bool false]) (by simp [results,Try.results11,go_sem, *]) rfl ⟨⟨_,_,_,_,rfl,wown_zero _ _⟩,by exact zB⟩
theorem inB_cases (n lo hi:Int):(inB n lo hi=true∧lo≤n∧n≤hi)∨inB n lo hi=false:=by
  cases h:inB n lo hi with
  | true=>left;simp [inB] at h;exact ⟨rfl,h.1,h.2⟩
  | false=>exact .inr rfl
theorem sNewWorld_any (cap tasks:Int) (w:World) :
    Calls Try.prog 11 #[.int .i64 cap,.int .i64 tasks] w fun r w'=>WordR w w' (newWorld cap tasks).1 (.bool (newWorld cap tasks).2) r:=by
  rcases inB_cases cap 0 4 with ⟨h,h0,h1⟩|h
  · rcases inB_cases tasks 1 6 with ⟨_,t0,t1⟩|t
    · exact sNewWorld_yes cap tasks w h0 h1 t0 t1
    · rw [newWorld_out (.inr t)];exact sNewWorld_no2 cap tasks w h t
  · rw [newWorld_out (.inl h)];exact sNewWorld_no1 cap tasks w h
end Go.Proofs.Ytgpdocmclkpknaa
set_option linter.unusedSimpArgs false
set_option linter.unusedVariables false
namespace Go.Proofs.Ytgpdocmclkpknaa
open Go.RowKit
set_option linter.unusedSimpArgs false
attribute [local simp] bx_size
attribute [local go_sem ↓] zeroHand toLHand toVHand toSHand storeHandC
attribute [local go_sem] runSHand
theorem zero_hands (n i j:Nat) (hi:i<n) (hj:j<14):handF (List.replicate n (resting 0 0)) i j=.int .i64 0:=by
  have e:(List.replicate n (resting 0 0)).getD i Ha.zero=Ha.zero:=by
    unfold List.getD;rw [List.getElem?_replicate,if_pos hi];rfl
  unfold handF
  rw [e]
  have h:j=0∨j=1∨j=2∨j=3∨j=4∨j=5∨j=6∨j=7∨j=8∨j=9∨j=10∨j=11∨j=12∨j=13:=by omega
  rcases h with rfl|rfl|rfl|rfl|rfl|rfl|rfl|rfl|rfl|rfl|rfl|rfl|rfl|rfl <;> rfl
theorem zero_row {w:World} {g n:Nat} (h:hp w g=some (.cells (Array.replicate (n*14) (.int .i64 0)) 60)):Row w g 60 n 14 (handF (List.replicate n (resting 0 0))) :=
  ⟨_,h,by simp,fun i j hi hj=>by rw [Array.getElem?_replicate,if_pos (by omega),zero_hands n i j hi hj]⟩
set_option maxRecDepth 100000 in
set_option maxHeartbeats 4000000 in
theorem newWorldI_no1 (cap tasks:Int) (w:World) (h:inB cap 0 4=false∨inB tasks 1 6=false) :
    Calls Try.prog 12 #[.int .i64 cap,.int .i64 tasks] w fun r w'=>WordR w w' Wo.zero (.bool false) r:=by
  have hh:inB cap 0 4=false∨(inB cap 0 4=true∧decide (tasks<1)=true)∨(inB cap 0 4=true∧decide (tasks<1)=false∧decide (6<tasks)=true):=by
    cases h1:inB cap 0 4 with
    | false=>exact .inl rfl
    | true =>
      rw [h1] at h
      have h2:inB tasks 1 6=false:=by simpa using h
      simp [inB] at h2
      by_cases h3:tasks<1
      · exact .inr (.inl ⟨rfl,by simp [h3]⟩)
      · exact .inr (.inr ⟨rfl,by simp [h3],by simp;omega⟩)
  clear h
  rcases hh with h|⟨h,h2⟩|⟨h,h2,h3⟩
  all_goals
    go_enter Try.func12,Try.ntmps12
    go_wp2_with (go_at_call 32;refine (inRange_any _ _ _).mono ?_;rintro _ _ ⟨rfl,rfl⟩)
    refine bodyPost_ret (v:=.tuple #[.agg #[.int .i64 0,.int .i64 0,.int .i64 0,.int .i64 0,.slice none 0 0,.slice none 0 0,.slice none 0 0,.slice none 0 0,.int .i64 0],.bool false]) (by simp [results,Try.results12,go_sem, *]) rfl ⟨⟨_,_,_,_,rfl,wown_zero _ _⟩,by exact zB⟩
set_option maxRecDepth 100000 in
set_option maxHeartbeats 4000000 in
theorem newWorldI_yes (cap:Int) (n:Nat) (w:World) (h:inB cap 0 4=true) (h1:1≤n) (h6:n≤6) :
    Calls Try.prog 12 #[.int .i64 cap,.int .i64 n] w fun r w'=>WordW w w' ⟨newChan cap,List.replicate n (resting 0 0),[],0⟩ (.bool true) r:=by
  have t1:decide ((n:Int)<1)=false:=by simp;omega
  have t2:decide (6<(n:Int))=false:=by simp;omega
  have hcells:(newChan cap).cells.length=40:=by simp [newChan,h]
  have hwords:(newChan cap).words=[]:=by simp [newChan,h]
  have HC:=Lib.hid hcells
  have HW:=Lib.hid hwords
  clear hcells hwords
  go_enter Try.func12,Try.ntmps12
  go_wp2_with (go_at_call 32;refine (inRange_any _ _ _).mono ?_;rintro _ _ ⟨rfl,rfl⟩)
  refine bHit w (by exact zB) fun bb=>?_
  refine (newChan_any cap _).mono ?_
  rintro _ w1 ⟨⟨v1,v2,rfl,o1,o2,o2n⟩,hbw1⟩
  have hCw1:Below w.heap.size w w1:=bT bb hbw1
  have hsw1:=hbw1.size;(try (simp at hsw1));have zz:=hQ hbw1 (b:=w.heap.size);(first|(simp [go_sem,z_w,l_w] at zz)|(simp [go_sem] at zz));(try clear x_w f_w);(try clear z_w);have z_w:=zz;clear zz;(try clear l_w);obtain ⟨x_w,f_w,l_w⟩:=bO z_w
  clear hbw1 bb
  replace o1:=New.more o1 (lo':=w.heap.size+1) (by simp)
  replace o2:=New.more o2 (lo':=w.heap.size+1) (by simp)
  obtain ⟨va,vc,rfl,_⟩:=o1.seg
  obtain ⟨vb,vd,rfl,_⟩:=o2.seg
  go_wp2_with fail
  refine bHit w1 (by exact zB) fun bk=>?_
  refine (resting_any 0 0 _).mono ?_
  rintro _ w2 ⟨rfl,hbw2⟩
  have hKw2:Below w1.heap.size w1 w2:=bT bk hbw2
  have hsw2:=hbw2.size;(try (simp at hsw2));have zz:=hQ hbw2 (b:=w.heap.size);(first|(simp [go_sem,z_w,l_w] at zz)|(simp [go_sem] at zz));(try clear x_w f_w);(try clear z_w);have z_w:=zz;clear zz;(try clear l_w);obtain ⟨x_w,f_w,l_w⟩:=bO z_w
  clear hbw2 bk
  go_wp2_with fail
  show Calls Try.prog _ _ (w2.alloc (.cells (Array.replicate 14 (.int .i64 0)) 60)) _
  generalize hwa:World.alloc w2 _=wa
  have hga:hp wa w2.heap.size=some (.cells (Array.replicate 14 (.int .i64 0)) 60):=by rw [← hwa];exact heap_alloc_new _ _
  have hKa:Below w2.heap.size w2 wa:=by rw [← hwa];exact belowAlloc _ _
  clear hwa
  refine (repeat_any n w2.heap.size h1 h6 wa (fun j hj=>by rw [(bO hga).1 j,Array.getElem?_replicate,if_pos hj]) (bO hga).2.2).mono ?_
  rintro _ w3 ⟨⟨g,rfl,hlo,hg⟩,hbw3⟩
  have hsa:=hKa.size
  have hK13:Below w1.heap.size w1 w3:=hKw2.trans ((hKa.mono hsw2).trans (hbw3.mono (by omega)))
  have hC3:Below w.heap.size w w3:=bT hCw1 hK13
  have z_w3:=hpS z_w (hKa.trans (hbw3.mono hsa))
  have lg:=(bO hg).2.2
  have gb:∀ i,(Value.slice va 0 0).ownBlock=some i→i≠g:=fun i e=>by
    have:=(New.lo' o1 i e).2
    omega
  have nb:(Value.slice vb 0 0).ownBlock=none:=by rw [← ownBlock_len vb _ vd];exact o2n
  replace o1:=New.below o1 hK13
  replace o2:=New.below o2 hK13
  have R3:=zero_row hg
  have gap:w1.heap.size≤g:=by omega
  clear z_w x_w f_w l_w hga hKa hbw3 hKw2
  obtain ⟨x_w,f_w,l_w⟩:=bO z_w3
  go_wp2
  refine bodyPost_ret (v:=.tuple #[.agg #[.int .i64 (newChan cap).cap,.int .i64 (newChan cap).sent,.int .i64 (newChan cap).got,.int .i64 (newChan cap).fin,.slice va (newChan cap).cells.length vc,.slice vb (newChan cap).words.length vd,.slice (some ⟨g,0,none⟩) n n,.slice none 0 0,.int .i64 0],.bool true]) (by simp [results,Try.results12,go_sem, *]) rfl ?_
  generalize hw4:World.setCell _ _ _=w4
  have hgr:w3.grownBy w4 (some w.heap.size):=by rw [← hw4];(repeat (first|with_reducible assumption|with_reducible exact gR _ _|with_reducible refine gA ?_|with_reducible refine gD ?_|with_reducible refine gS ?_ (.inl rfl)|((with_reducible refine gBx ?_ (.inr ?_));rotate_left;(focus ((try dsimp only);(try simp);(try omega))))|((with_reducible refine gS ?_ (.inr ?_));rotate_left;(focus ((try dsimp only);(try simp);(try omega))))))
  have hB4:Below w.heap.size w w4:=by rw [← hw4];exact zB
  clear hw4
  have k1:=New.kept o1 hgr (.inr fun e=>by have:=(New.lt o1 e).1;omega)
  have k2:=New.kept o2 hgr (.inr fun e=>by have:=(New.lt o2 e).1;omega)
  have k3:Row w4 g 60 n 14 (handF (List.replicate n (resting 0 0))):=R3.of_block (hgr.block g lg (by simp;omega))
  have l3:=k3.lt
  have k3':New w4 w.heap.size (.slice (some ⟨g,0,none⟩) n n) n 14 (handF (List.replicate n (resting 0 0))):=k3.newS (by omega)
  refine ⟨⟨va,vb,some ⟨g,0,none⟩,none,vc,vd,n,0,by simp [wvals],⟨⟨New.more k1 (by omega),New.more k2 (by omega),by simpa using k3',.inl ⟨rfl,rfl⟩⟩,⟨fun i e=>(New.lo' k1 i e).2,fun i e=>(New.lo' k2 i e).2,fun i e=>by simp [Value.ownBlock] at e;omega,fun i e=>by simp [Value.ownBlock] at e⟩⟩,⟨fun i e=>⟨by rw [nb];exact nofun,fun e2=>by simp [Value.ownBlock] at e2;exact gb i e e2.symm,by simp [Value.ownBlock]⟩,fun i e=>by (rw [nb] at e;cases e),fun i e=>by simp [Value.ownBlock]⟩⟩,hB4⟩
theorem newWorldI_any (cap tasks:Int) (w:World) :
    Calls Try.prog 12 #[.int .i64 cap,.int .i64 tasks] w fun r w'=>WordW w w' (newWorld cap tasks).1 (.bool (newWorld cap tasks).2) r:=by
  rcases inB_cases cap 0 4 with ⟨h,h0,h1⟩|h
  · rcases inB_cases tasks 1 6 with ⟨ht,t0,t1⟩|t
    · obtain ⟨n,rfl⟩:∃ n:Nat,tasks=(n:Int):=⟨tasks.toNat,by omega⟩
      rw [show newWorld cap (n:Int)=(⟨newChan cap,List.replicate n (resting 0 0),[],0⟩,true) by simp [newWorld,h,ht]]
      exact newWorldI_yes cap n w h (by omega) (by omega)
    · rw [newWorld_out (.inr t)];exact (newWorldI_no1 cap tasks w (.inr t)).mono fun _ _ h=>h.toW
  · rw [newWorld_out (.inl h)];exact (newWorldI_no1 cap tasks w (.inl h)).mono fun _ _ h=>h.toW
end Go.Proofs.Ytgpdocmclkpknaa
set_option linter.unusedSimpArgs false
set_option linter.unusedVariables false
namespace Go.Proofs.Ytgpdocmclkpknaa
open Go.RowKit
theorem sWorldOkW (x:Wo) (m:LenW x) (a b d e:Option Addr) (p q r s:Nat) (w:World) (h:SegW w w.heap.size x a b d e) (z:NoneW x a b d e p q r s) :
    Calls Try.prog 7 #[.agg (wvals x (.slice a x.ch.cells.length p) (.slice b x.ch.words.length q) (.slice d x.hands.length r) (.slice e x.deals.length s))] w fun r' w'=>r'=.returned (.bool (worldOk x))∧Below w.heap.size w w' :=
  sWorldOk_any x a b d e p q r s w h.1 h.2.1 h.2.2.1 h.2.2.2 (by have:=m.2.2.1;omega) (by have:=m.2.2.2;omega)
theorem iWorldOkW (x:Wo) (m:LenW x) (a b d e:Option Addr) (p q r s:Nat) (w:World) (h:SegW w w.heap.size x a b d e) (z:NoneW x a b d e p q r s) :
    Calls Try.prog 9 #[.agg (wvals x (.slice a x.ch.cells.length p) (.slice b x.ch.words.length q) (.slice d x.hands.length r) (.slice e x.deals.length s))] w fun r' w'=>r'=.returned (.bool (worldOk x))∧Below w.heap.size w w' :=
  worldOkI_any x a b d e p q r s w h m
theorem sAskedW (x:Wo) (who k e0:Int) (m:LenW x) (a b d e:Option Addr) (p q r s:Nat) (w:World) (h:SegW w w.heap.size x a b d e) (z:NoneW x a b d e p q r s) :
    Calls Try.prog 15 #[.agg (wvals x (.slice a x.ch.cells.length p) (.slice b x.ch.words.length q) (.slice d x.hands.length r) (.slice e x.deals.length s)),.int .i64 who,.agg #[.int .i64 k,.int .i64 e0]] w fun r' w'=>WordR w w' (asked x who k e0).1 (.int .i64 (asked x who k e0).2) r' :=
  sAsked_any x who k e0 a b d e p q r s w h.1 z.1 h.2.1 z.2.1 h.2.2.1 z.2.2.1 h.2.2.2 z.2.2.2 (by have:=m.1;omega) (by have:=m.2.1;omega) (by have:=m.2.2.1;omega) (by have:=m.2.2.2;omega)
theorem iAskedW (x:Wo) (who k e0:Int) (m:LenW x) (a b d e:Option Addr) (p q r s:Nat) (w:World) (h:SegW w w.heap.size x a b d e) (z:NoneW x a b d e p q r s) :
    Calls Try.prog 17 #[.agg (wvals x (.slice a x.ch.cells.length p) (.slice b x.ch.words.length q) (.slice d x.hands.length r) (.slice e x.deals.length s)),.int .i64 who,.agg #[.int .i64 k,.int .i64 e0]] w fun r' w'=>WordR w w' (asked x who k e0).1 (.int .i64 (asked x who k e0).2) r' :=
  askedI_any x who k e0 a b d e p q r s w h z m
theorem asked_len (x:Wo) (who k e:Int) (m:LenW x):LenW (asked x who k e).1:=by
  unfold asked
  split
  · split
    · exact m
    · split
      · exact m
      · exact ⟨m.1,m.2.1,by simpa [setHand] using m.2.2.1,m.2.2.2⟩
  · exact ⟨by simp [Wo.zero,Ch.zero],by simp [Wo.zero,Ch.zero],by simp [Wo.zero],by simp [Wo.zero]⟩
theorem newWorld_len (c t:Int):LenW (newWorld c t).1:=by
  unfold newWorld
  split
  · rename_i h
    simp [inB] at h
    refine ⟨?_,?_,?_,?_⟩
    · show (newChan c).cells.length≤_
      unfold newChan;split <;> simp [Ch.zero]
    · show (newChan c).words.length≤_
      unfold newChan;split <;> simp [Ch.zero]
    · simp;omega
    · simp
  · exact ⟨by simp [Wo.zero,Ch.zero],by simp [Wo.zero,Ch.zero],by simp [Wo.zero],by simp [Wo.zero]⟩
end Go.Proofs.Ytgpdocmclkpknaa
set_option maxRecDepth 100000
set_option linter.unusedSimpArgs false
set_option linter.unusedVariables false
namespace Go.Proofs.Ytgpdocmclkpknaa
open Go.ChangeShapes Go.WideShapes Go.ChangeAt Go.RowKit Go.Deep
theorem own:ownKnob Try.prog.godebug=none:=by kernel_rfl
theorem laidOut:laidOutB Try.prog=true:=by kernel_rfl
section
variable {H:Type} {enc:TypeId × Value→H} {P:Program} {w:World} {spare:Nat→Bool} {held:Bool}
/-- A slice of elements that can be read lies in memory as said. -/
theorem dSlice {α:Type} (k:Nat) (val:α→Nat→Value) (Q:α→Prop) (d0:α) {t e:TypeId} (ht:P.underlying t=some (.slice e)) (hk:P.cellsOf e=k) (hk0:0<k)
    (dec:∀ (fuel:Nat) (cs:List Value) (x:DataW H × List MemPlace),DataW.trod enc P w 0 spare held fuel e cs=some x→∃ c:α,Q c∧∀ j,j<k→cs[j]?=some (val c j))
    {fuel:Nat} {cs:List Value} {x:DataW H × List MemPlace} (h:DataW.trod enc P w 0 spare held fuel t cs=some x) :
    ∃ (a:Option Addr) (l:List α) (cap:Nat),cs=[.slice a l.length cap]∧l.length≤cap∧cap≤maxLen∧(∀ c ∈ l,Q c)∧Seg w w.heap.size a l.length k (fun i j=>val (l.getD i d0) j):=by
  rcases open_slice ht h with ⟨hcs,_⟩|⟨ad,len,cap,m,n,D,Pl,hcs,_,hl,hm,hmm,_,hi⟩
  · exact ⟨none,[],0,hcs,Nat.le_refl _,Nat.zero_le _,by simp,.inl rfl⟩
  · have hlm:len≤m:=by rw [hmm];split <;> omega
    have hx:∀ i:Nat,∃ c:α,i<len→(Q c∧∀ j,j<k→w.cell? (ad.add (i*k+j))=some (val c j)):=by
      intro i
      by_cases hlt:i<len
      · obtain ⟨cs',hc,htr⟩:=hi i (by omega)
        rw [hk] at hc
        obtain ⟨_,_,hat⟩:=World.cells?_some hc
        obtain ⟨c,hq,hv⟩:=dec _ _ _ htr
        refine ⟨c,fun _=>⟨hq,fun j hj=>?_⟩⟩
        rw [← Go.Deep.add_add,hat j hj,hv j hj]
      · exact ⟨d0,fun h=>absurd h hlt⟩
    obtain ⟨g,hg⟩:=Classical.axiomOfChoice hx
    refine ⟨some ad,(List.range len).map g,cap,by simpa using hcs,by simpa using hl,hm,?_,?_⟩
    · intro c hc
      obtain ⟨i,hi',rfl⟩:=List.mem_map.1 hc
      exact (hg i (List.mem_range.1 hi')).1
    · by_cases h0:len=0
      · exact .inl (by simpa using h0)
      · obtain ⟨b,off,spot⟩:=ad
        have hz:=(hg 0 (by omega)).2 0 hk0
        have hspot:spot=none:=by simpa [Addr.add] using World.cell?_spot hz
        subst hspot
        refine .inr ⟨b,off,rfl,?_,fun i j hi' hj=>?_⟩
        · have:=block_lt_of_cell hz
          simpa [Addr.add] using this
        · have hlt:i<len:=by simpa using hi'
          have:=(hg i hlt).2 j hj
          rw [add_plain,← Nat.add_assoc] at this
          rw [this]
          simp [List.getD,hlt]
end
/-- Every field is one int64, in its place. -/
def allInts (P:Program) (fs:Array Field):Bool:=fs.toList.zipIdx.all fun (f,i)=>decide (f.offset=i) && decide (P.cellsOf f.type=1) && (match P.underlying f.type with|some (.int .i64)=>true|_=>false)
theorem allInts_at {P:Program} {fs:Array Field} (h:allInts P fs=true) {j:Nat} {f:Field} (hj:fs[j]?=some f):f.offset=j∧P.cellsOf f.type=1∧P.underlying f.type=some (.int .i64):=by
  have hm:(f,j) ∈ fs.toList.zipIdx:=by
    rw [List.mem_zipIdx_iff_getElem?]
    simpa using hj
  have:=List.all_eq_true.1 h _ hm
  simp only [Bool.and_eq_true,decide_eq_true_eq] at this
  refine ⟨this.1.1,this.1.2,?_⟩
  have h2:=this.2
  split at h2
  · assumption
  · cases h2
section
variable {H:Type} {enc:TypeId × Value→H} {P:Program} {w:World} {spare:Nat→Bool} {held:Bool}
theorem dInts {t:TypeId} {fs:Array Field} (ht:P.underlying t=some (.struct fs)) (hall:allInts P fs=true) (hC:P.cellsOf t=fs.size)
    {fuel:Nat} {cs:List Value} {x:DataW H × List MemPlace} (h:DataW.trod enc P w 0 spare held fuel t cs=some x) :
    cs.length=fs.size∧∃ g:Nat→Int,∀ j,j<fs.size→(cs[j]?=some (.int .i64 (g j))∧(Lit.int .i64 (g j)).wf=true):=by
  obtain ⟨xs,n,_,_,hlen,hxl,hf⟩:=DataW.trod_struct ht h
  have hx:∀ j:Nat,∃ a:Int,j<fs.size→(cs[j]?=some (.int .i64 a)∧(Lit.int .i64 a).wf=true):=by
    intro j
    by_cases hj:j<fs.size
    · obtain ⟨h1,h2,h3⟩:=allInts_at hall (Array.getElem?_eq_getElem hj)
      have g:=hf j _ (Array.getElem?_eq_getElem hj)
      rw [h1,h2,List.getElem?_eq_getElem (by omega)] at g
      obtain ⟨a,ea,_,wa⟩:=DataW.trod_int h3 g
      refine ⟨a,fun _=>⟨?_,wa⟩⟩
      have e:=congrArg (fun l:List Value=>l[0]?) ea
      simpa [List.getElem?_take,List.getElem?_drop] using e
    · exact ⟨0,fun h=>absurd h hj⟩
  obtain ⟨g,hg⟩:=Classical.axiomOfChoice hx
  exact ⟨hlen.trans hC,g,hg⟩
end
def C3.wf (c:C3):Prop:=(Lit.int .i64 c.s).wf=true∧(Lit.int .i64 c.e).wf=true∧(Lit.int .i64 c.t).wf=true
section
variable {H:Type} {enc:TypeId × Value→H} {w:World} {spare:Nat→Bool} {held:Bool}
theorem dCell (fuel:Nat) (cs:List Value) (x:DataW H × List MemPlace) (h:DataW.trod enc Try.prog w 0 spare held fuel 116 cs=some x) :
    ∃ c:C3,c.wf∧∀ j,j<3→cs[j]?=some (c.val j):=by
  obtain ⟨_,g,hg⟩:=dInts Try.underlying116 (by kernel_rfl) (by kernel_rfl) h
  refine ⟨⟨g 0,g 1,g 2⟩,⟨(hg 0 (by decide)).2,(hg 1 (by decide)).2,(hg 2 (by decide)).2⟩,fun j hj=>?_⟩
  have:j=0∨j=1∨j=2:=by omega
  rcases this with rfl|rfl|rfl
  · exact (hg 0 (by decide)).1
  · exact (hg 1 (by decide)).1
  · exact (hg 2 (by decide)).1
end
end Go.Proofs.Ytgpdocmclkpknaa
set_option maxRecDepth 100000
set_option linter.unusedSimpArgs false
set_option linter.unusedVariables false
namespace Go.Proofs.Ytgpdocmclkpknaa
open Go.ChangeShapes Go.WideShapes Go.ChangeAt Go.RowKit Go.Deep
section
variable {H:Type} {enc:TypeId × Value→H} {w:World} {spare:Nat→Bool} {held:Bool}
theorem dInt (fuel:Nat) (cs:List Value) (x:DataW H × List MemPlace) (hx:DataW.trod enc Try.prog w 0 spare held fuel 2 cs=some x) :
    ∃ c:Int,(Lit.int .i64 c).wf=true∧∀ j,j<1→cs[j]?=some (Value.int .i64 c):=by
  obtain ⟨c,rfl,_,hw⟩:=DataW.trod_int Try.underlying2 hx
  refine ⟨c,hw,fun j hj=>?_⟩
  have:j=0:=by omega
  subst this;rfl
end
end Go.Proofs.Ytgpdocmclkpknaa
set_option maxRecDepth 100000
set_option linter.unusedSimpArgs false
set_option linter.unusedVariables false
namespace Go.Proofs.Ytgpdocmclkpknaa
open Go.ChangeShapes Go.WideShapes Go.ChangeAt Go.RowKit Go.Deep
section
variable {H:Type} {enc:TypeId × Value→H} {w:World} {spare:Nat→Bool} {held:Bool}
/-- A call as an argument. -/
theorem oCall {r:Reach} {b0:Nat} {v:Value} {d:DataW H} {p:List MemPlace} (hv:Value.okWide Try.prog w r b0 47 v) (h:DataW.Trod enc Try.prog w 0 spare held 47 v d p) :
    ∃ k e:Int,v=.agg #[.int .i64 k,.int .i64 e]:=by
  obtain ⟨cs,rfl,hsz⟩:=okWide_struct Try.underlying47 hv
  obtain ⟨l⟩:=cs
  have hs:l.length=2:=by
    have h3:Try.prog.cellsOf 47=2:=by kernel_rfl
    simpa [h3] using hsz
  obtain ⟨fuel,hf⟩:=h
  obtain ⟨_,g,hg⟩:=dInts Try.underlying47 (by kernel_rfl) (by kernel_rfl) hf
  refine ⟨g 0,g 1,?_⟩
  match l,hs with
  | [v0,v1],_ =>
    have g0:=(hg 0 (by decide)).1
    have g1:=(hg 1 (by decide)).1
    simp [Value.cells] at g0 g1
    rw [g0,g1]
end
end Go.Proofs.Ytgpdocmclkpknaa
