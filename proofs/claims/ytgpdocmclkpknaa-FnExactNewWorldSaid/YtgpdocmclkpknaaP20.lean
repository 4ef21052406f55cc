/-
  A step of a world, of the reference model, all cases; lists lie in memory and hold at most 2 ^ 40 elements.
  What steps leave right, on plain numbers and lists: right worlds stay right, and one who is stepped alone waits in at most one cell; no condition.
  Right worlds stay right, on plain numbers and lists; no condition.
  The reference model's NewChan; no condition.
  The draws of the laws: what each hands back is some value of its range, and only the cursor turns; the drawn bytes are at most 4096.
  A new world of the reference model; no condition.
-/
import Derived.Test.YtgpdocmclkpknaaP19
import Derived.Test.YtgpdocmclkpknaaP03
import Derived.Test.YtgpdocmclkpknaaP01
import Derived.Test.YtgpdocmclkpknaaP04
import Derived.IntWalk
import Derived.Deep.RegionLaw
set_option linter.unusedSimpArgs false
set_option linter.unusedVariables false
namespace Go.Proofs.Ytgpdocmclkpknaa
open Go.RowKit
set_option linter.unusedSimpArgs false
end Go.Proofs.Ytgpdocmclkpknaa
set_option linter.unusedSimpArgs false
set_option linter.unusedVariables false
namespace Go.Proofs.Ytgpdocmclkpknaa
end Go.Proofs.Ytgpdocmclkpknaa
set_option linter.unusedSimpArgs false
set_option linter.unusedVariables false
namespace Go.Proofs.Ytgpdocmclkpknaa
/-- A right world, said at length. -/
structure RightW (x:Wo):Prop where
  ch:chanOk x.ch=true
  h1:1≤x.hands.length
  h6:x.hands.length≤6
  d:x.deals.length≤1000
  n0:0≤x.now
  n1:x.now≤20000
  hs:∀ h ∈ x.hands,handOk h=true∧h.beg≤x.now
  ds:∀ d ∈ x.deals,dealB x.hands.length x.now d=true
end Go.Proofs.Ytgpdocmclkpknaa
set_option linter.unusedSimpArgs false
set_option linter.unusedVariables false
namespace Go.Proofs.Ytgpdocmclkpknaa
open Go.RowKit
theorem own_zeros (w:World) (lo:Nat) (h:lo≤w.heap.size):OCells (w.alloc (.cells (madeCells #[.int .i64 0,.int .i64 0,.int .i64 0] (40*3)) 89)) lo (.slice (some ⟨w.heap.size,0,none⟩) 40 40) (List.replicate 40 C3.zero):=by
  refine ⟨by rw [flatC_len],.inr ⟨w.heap.size,40,_,rfl,h,heap_alloc_new w _,Nat.le_refl _,by decide,size_madeCells _ _,?_⟩⟩
  kernel_rfl
set_option maxRecDepth 100000 in
set_option maxHeartbeats 1000000 in
theorem sNewChan_any (cap:Int) (w:World):Calls Try.prog 38 #[.int .i64 cap] w fun r w' =>
    (∃ v1 v2,r=.returned (.agg #[.int .i64 (newChan cap).cap,.int .i64 (newChan cap).sent,.int .i64 (newChan cap).got,.int .i64 (newChan cap).fin,v1,v2])∧OCells w' w.heap.size v1 (newChan cap).cells∧OInts w' w.heap.size v2 (newChan cap).words)∧Below w.heap.size w w':=by
  by_cases h:inB cap 0 4=true
  · have e:newChan cap=⟨cap,0,0,cap,List.replicate 40 C3.zero,[]⟩:=by simp [newChan,h]
    rw [e]
    have hmk:∀ W:World,(Instr.makeSlice 32 (.int .i64 40) (.int .i64 40)).run Try.prog W=.ok (.slice (some ⟨W.heap.size,0,none⟩) 40 40) (W.alloc (.cells (madeCells #[.int .i64 0,.int .i64 0,.int .i64 0] (40*3)) 89)):=mkCells 40 (by omega)
    have HZ:Hid (∀ (W:World) (lo n:Nat),n=W.heap.size→lo≤W.heap.size→OCells (W.alloc (.cells (madeCells #[.int .i64 0,.int .i64 0,.int .i64 0] (40*3)) 89)) lo (.slice (some ⟨n,0,none⟩) 40 40) (List.replicate 40 C3.zero)):=fun W lo n hn h=>hn ▸ own_zeros W lo h
    generalize madeCells #[.int .i64 0,.int .i64 0,.int .i64 0] (40*3)=mz at hmk HZ
    go_enter Try.func38,Try.ntmps38
    go_wp2_with (go_at_call 26;refine (l1In_any _ _ _ _).mono ?_;rintro _ _ ⟨rfl,rfl⟩)
    refine bodyPost_ret (v:=.agg #[.int .i64 cap,.int .i64 0,.int .i64 0,.int .i64 cap,.slice (some ⟨w.heap.size+1,0,none⟩) 40 40,.slice none 0 0]) (by simp [results,Try.results38,go_sem, *]) rfl ⟨⟨_,_,rfl,HZ.out _ _ _ (by simp) (by simp),World.ownsRow_nil _ _ _ _⟩,?_⟩
    exact zB
  · have e:newChan cap=Ch.zero:=by simp [newChan,h]
    rw [e]
    go_enter Try.func38,Try.ntmps38
    go_wp2_with (go_at_call 26;refine (l1In_any _ _ _ _).mono ?_;rintro _ _ ⟨rfl,rfl⟩)
    refine bodyPost_ret (v:=.agg #[.int .i64 0,.int .i64 0,.int .i64 0,.int .i64 0,.slice none 0 0,.slice none 0 0]) (by simp [results,Try.results38,go_sem, *]) rfl ⟨⟨_,_,rfl,World.ownsRow_nil _ _ _ _,World.ownsRow_nil _ _ _ _⟩,?_⟩
    exact zB
end Go.Proofs.Ytgpdocmclkpknaa
set_option linter.unusedSimpArgs false
set_option linter.unusedVariables false
namespace Go.Proofs.Ytgpdocmclkpknaa
open Go.RowKit
theorem heap_frozen {w:World} {g:Nat} {cs:Array Value} {t:TypeId} (h:w.heap[g]?=some (.cells cs t (0,0))) (o:Nat):w.frozen? ⟨g,o,none⟩=false:=by
  simp [World.frozen?,h]
end Go.Proofs.Ytgpdocmclkpknaa
set_option linter.unusedSimpArgs false
set_option linter.unusedVariables false
namespace Go.Proofs.Ytgpdocmclkpknaa
open Go.RowKit
set_option linter.unusedSimpArgs false
attribute [local simp] bx_size
attribute [local go_sem ↓] zeroHand toLHand toVHand toSHand storeHandC
attribute [local go_sem] runSHand
theorem OHands.rep {w:World} {lo g q k:Nat} {h:Ha} (o:w.ownsRow lo 60 14 (.slice (some ⟨g,0,none⟩) ((List.replicate k h).length+1) q) ((List.replicate k h).length+1) (flatH (List.replicate k h) ++ (hvals h).toList)):OHands w lo (.slice (some ⟨g,0,none⟩) (k+1) q) (List.replicate (k+1) h):=by
  have e:flatH (List.replicate (k+1) h)=flatH (List.replicate k h) ++ (hvals h).toList:=by rw [List.replicate_succ'];simp [flatH]
  unfold OHands
  rw [e]
  simpa using o
set_option maxRecDepth 100000 in
set_option maxHeartbeats 4000000 in
theorem sNewWorld_yes (cap tasks:Int) (w:World) (h0:0≤cap) (h1:cap≤4) (h2:1≤tasks) (h3:tasks≤6) :
    Calls Try.prog 11 #[.int .i64 cap,.int .i64 tasks] w fun r w'=>WordR w w' (newWorld cap tasks).1 (.bool (newWorld cap tasks).2) r:=by
  have e1:inB cap 0 4=true:=inB_yes h0 h1
  have e2:inB tasks 1 6=true:=inB_yes h2 h3
  have e:newWorld cap tasks=(⟨newChan cap,List.replicate tasks.toNat (resting 0 0),[],0⟩,true):=by simp [newWorld,e1,e2]
  rw [e]
  have el:(newChan cap).cells.length=40:=by simp [newChan,e1]
  go_enter Try.func11,Try.ntmps11
  go_wp2_with fail;refine bHit w (by exact zB) fun bb=>?_;refine (sNewChan_any cap _).mono ?_;rintro _ w1 ⟨⟨v1,v2,rfl,o1,o2⟩,hbw1⟩;have hCw1:Below w.heap.size w w1:=bT bb hbw1;have hsw1:=hbw1.size;(try simp at hsw1);have zz:=hQ hbw1 (b:=w.heap.size);(try simp [go_sem] at zz);(try clear z_w x_w f_w l_w);have z_w:=zz;clear zz;obtain ⟨x_w,f_w,l_w⟩:=bO z_w;clear hbw1 bb
  try simp at o1 o2
  have O1:=Lib.hid o1
  have O2:=Lib.hid o2
  obtain ⟨va,vc,rfl,_⟩:=OCells.seg o1
  obtain ⟨vb,vd,rfl,_⟩:=OInts.seg o2
  clear o1 o2
  rw [el]
  replace O1:Hid (OCells w1 (w.heap.size+1) (.slice va 40 vc) (newChan cap).cells):=by have:=O1.out;rw [el] at this;exact this
  go_wp2_with (first|(go_at_call 26;refine (l1In_any _ _ _ _).mono ?_;rintro _ _ ⟨rfl,rfl⟩))
  obtain ⟨i5,hi5,hz5,hsz5,hby5⟩:=info_parts infoHandE
  have n1:∀ j,(Value.slice va 40 vc).ownBlock=some j→j<w1.heap.size:=fun j hj=>(O1.out.lt j hj).2
  have n2:∀ j,(Value.slice vb (newChan cap).words.length vd).ownBlock=some j→j<w1.heap.size:=fun j hj=>(O2.out.lt j hj).2
  go_loopw [8] (fun i wr=>∃ (k:Nat) (v3:Value),k≤tasks.toNat∧i=.int .i64 k∧OCells wr (w.heap.size+1) (.slice va 40 vc) (newChan cap).cells∧OInts wr (w.heap.size+1) (.slice vb (newChan cap).words.length vd) (newChan cap).words∧OHands wr (w1.heap.size+1+1) v3 (List.replicate k (resting 0 0))∧hp wr (w1.heap.size+1)=some (.cells #[.int .i64 (newChan cap).cap,.int .i64 (newChan cap).sent,.int .i64 (newChan cap).got,.int .i64 (newChan cap).fin,.slice va 40 vc,.slice vb (newChan cap).words.length vd,v3,.slice none 0 0,.int .i64 0] 38)∧hp wr w.heap.size=some (.cells #[.int .i64 0,.int .i64 0,.int .i64 0,.int .i64 0,.slice none 0 0,.slice none 0 0,.slice none 0 0,.slice none 0 0,.int .i64 0] 38)∧w1.heap.size+1+1≤wr.heap.size∧Below w.heap.size w wr) (fun i _=>tasks.toNat - (intOf i).toNat)
  case atStart =>
    refine ⟨0,.slice none 0 0,Nat.zero_le _,rfl,World.ownsRow.alloc (World.ownsRow.alloc O1.out _) _,World.ownsRow.alloc (World.ownsRow.alloc O2.out _) _,World.ownsRow_nil _ _ _ _,?_,?_,by simp,by exact zB⟩
    all_goals (simp [go_sem, *])
  case round =>
    obtain ⟨k,v3,hk,rfl,q1,q2,q3,z_w1p,z_w,hsz,hB⟩:=hrel
    have l_w:w.heap.size<wr.heap.size:=by omega
    have l_w1:w1.heap.size<wr.heap.size:=by omega
    have l_w1p:w1.heap.size+1<wr.heap.size:=by omega
    have x_w:∀ o,wr.cell? ⟨w.heap.size,o,none⟩=_:=fun o=>cell_of_row wr w.heap.size o _ _ _ z_w
    have f_w:∀ o,wr.frozen? ⟨w.heap.size,o,none⟩=false:=heap_frozen z_w
    have x_w1p:∀ o,wr.cell? ⟨w1.heap.size+1,o,none⟩=_:=fun o=>cell_of_row wr (w1.heap.size+1) o _ _ _ z_w1p
    have f_w1p:∀ o,wr.frozen? ⟨w1.heap.size+1,o,none⟩=false:=heap_frozen z_w1p
    have Q1:=Lib.hid q1
    have Q2:=Lib.hid q2
    have Q3:=Lib.hid q3
    clear q1 q2 q3
    by_cases hlt:k<tasks.toNat
    · have hk1:(k:Int)<tasks:=by omega
      have hn0:some w.heap.size≠v3.ownBlock:=fun e=>own_ne Q3.out (by omega) e.symm
      have hn1:some w1.heap.size≠v3.ownBlock:=fun e=>own_ne Q3.out (by omega) e.symm
      have hn2:some (w1.heap.size+1)≠v3.ownBlock:=fun e=>own_ne Q3.out (by omega) e.symm
      have off1:=own_off_ty Q1.out Q3.out (by decide)
      have off2:=own_off_ty Q2.out Q3.out (by decide)
      go_wp2_with fail
      go_region_law (first|(go_simp;(go_at_call 39;refine bHit w (by exact zB) fun bb=>?_;refine bHit wr (by exact zB) fun bk=>?_;refine (sResting_any 0 0 _).mono ?_;rintro _ w4 ⟨rfl,hbw4⟩;have hCw4:Below w.heap.size w w4:=bT bb hbw4;have hsw4:=hbw4.size;(try simp at hsw4);have zz:=And.intro (hQ hbw4 (b:=w1.heap.size+1)) <| hQ hbw4 (b:=w.heap.size);(first|simp [go_sem,z_w1p,z_w,l_w,l_w1,l_w1p] at zz|simp [go_sem] at zz|skip);(try clear z_w1p x_w1p f_w1p l_w1p);(try clear z_w x_w f_w l_w);obtain ⟨z_w1p,z_w⟩:=zz;obtain ⟨x_w1p,f_w1p,l_w1p⟩:=bO z_w1p;obtain ⟨x_w,f_w,l_w⟩:=bO z_w;have hKw4:Below wr.heap.size wr w4:=bT bk hbw4;clear hbw4 bb bk))|(refine step_append_lies _ (by rfl) _ _ _ (by rfl) (w1.heap.size+1+1) 60 i5 _ 14 112 Try.underlying35 hi5 hz5 hsz5 hby5 rfl (by omega) v3 _ _ (by rfl) (World.ownsRow.drew (World.ownsRow.alloc (own_below Q3.out hKw4) _)) ⟨w4.heap.size,0,none⟩ 1 1 (hvals (resting 0 0)).toList (by rfl) (by rfl) (World.news_of_block (cs:=hvals (resting 0 0)) (t:=60) (fr:=(0,0)) (heap_alloc_new w4 _)) (by simp [hvals,Value.oneCell']) (by omega) (by unfold maxLen;simp;omega) (by simp;omega) (by simp;omega) (w4.heap.size+1) (by simp) ?_;intro g8 q8 w8 o8 g4 hat hlt8;have hsw8:=g4.size;(try (simp at hsw8));have zz:=And.intro (grHp g4 (b:=w1.heap.size+1) (by (try simp) <;> omega) (by assumption)) <| grHp g4 (b:=w.heap.size) (by (try simp) <;> omega) (by assumption);(first|simp [go_sem,z_w1p,z_w,l_w,l_w1,l_w1p] at zz|simp [go_sem] at zz|skip);(try clear z_w1p x_w1p f_w1p l_w1p);(try clear z_w x_w f_w l_w);obtain ⟨z_w1p,z_w⟩:=zz;obtain ⟨x_w1p,f_w1p,l_w1p⟩:=bO z_w1p;obtain ⟨x_w,f_w,l_w⟩:=bO z_w;have B8:Below w.heap.size w w8:=bOwn (by exact zB) g4 (by ((try simp) <;> (try omega))) (fun k hk=>by have:=(Q3.out.lt k hk).1;omega)))
      all_goals (have r1:=(World.ownsRow.alloc (own_below Q1.out hKw4) _).kept g4 off1;have r2:=(World.ownsRow.alloc (own_below Q2.out hKw4) _).kept g4 off2;have r3:OHands w8 (w1.heap.size+1+1) (.slice (some ⟨g8,0,none⟩) (k+1) q8) (List.replicate (k+1) (resting 0 0)):=OHands.rep o8;clear o8 g4)
      all_goals go_wp2
      all_goals go_roundw
      case rel=>exact ⟨k+1,_,by omega,by go_num,own_store r1 (fun e=>by have:=n1 _ e;simp at this;omega) _,own_store r2 (fun e=>by have:=n2 _ e;simp at this;omega) _,own_store r3 (own_ne r3 (by simp)) _,by simp [go_sem, *],by simp [go_sem, *],by simp;omega,by exact zB⟩
      case measure=>simp [intOf];omega
      all_goals (first|exact ⟨k+1,_,by omega,by go_num,own_store r1 (fun e=>by have:=n1 _ e;simp at this;omega) _,own_store r2 (fun e=>by have:=n2 _ e;simp at this;omega) _,own_store r3 (own_ne r3 (by simp)) _,by simp [go_sem, *],by simp [go_sem, *],by simp;omega,by exact zB⟩|(simp [intOf];omega))
    · have hk2:k=tasks.toNat:=by omega
      have hk1:¬ (k:Int)<tasks:=by omega
      have K:=Lib.hid hk2
      have L:=Lib.hid el
      obtain ⟨vf,vg,rfl,_⟩:=OHands.seg Q3.out
      have el2:(List.replicate k (resting 0 0)).length=k:=by simp
      clear hk2 el
      go_wp2
      have o1:=Q1.out
      have o2:=Q2.out
      have o3:=Q3.out
      have p1:=own_lo (lo':=w.heap.size) o1 (by omega)
      have p2:=own_lo (lo':=w.heap.size) o2 (by omega)
      have p3:=own_lo (lo':=w.heap.size) o3 (by omega)
      rw [← K.out]
      refine bodyPost_ret (v:=.tuple #[.agg #[.int .i64 (newChan cap).cap,.int .i64 (newChan cap).sent,.int .i64 (newChan cap).got,.int .i64 (newChan cap).fin,.slice va 40 vc,.slice vb (newChan cap).words.length vd,.slice vf (List.replicate k (resting 0 0)).length vg,.slice none 0 0,.int .i64 0],.bool true]) (by simp [results,Try.results11,go_sem, *]) rfl ⟨⟨_,_,_,_,rfl,?_,?_,?_,World.ownsRow_nil _ _ _ _⟩,by exact zB⟩
      · exact zO p1 o1
      · exact zO p2 o2
      · exact zO p3 o3
end Go.Proofs.Ytgpdocmclkpknaa
