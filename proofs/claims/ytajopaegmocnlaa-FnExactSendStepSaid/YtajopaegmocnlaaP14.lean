/-
  A waiter's word is had with a cell that was free and is not so any more: there are never more words than cells that are not free; on plain numbers and lists; no condition.
  A step touches one thing at most: a counter, a cell, or a word, but for a word that is new; on plain numbers and lists; no condition.
  The exact law of SendStep returns true, whatever it is called with, and turns nothing that was there; the lists hold at most as much as memory can hold.
  How the arguments of the laws are opened: numbers, structs of numbers, and slices of these; no condition but that they can be read.
  How a channel is opened that is an argument of a law; no condition but that it can be read.
  How a hand is opened that is an argument of a law; no condition but that it can be read.
-/
import Derived.Test.YtajopaegmocnlaaP13
import Derived.Test.YtajopaegmocnlaaP02
import Derived.Test.YtajopaegmocnlaaP03
import Derived.Test.YtajopaegmocnlaaP09
import Derived.Test.YtajopaegmocnlaaP11
import Derived.Deep.RegionHeld3
import Derived.Deep.DeepCutAuto
import Derived.Test.YtajopaegmocnlaaRows
import Derived.Test.YtajopaegmocnlaaP01
import Derived.ProofKit
import Derived.OpenShut
import Derived.ShutString
import Derived.ChangeOld
import Derived.Deep.Slices
import Derived.Deep.Fields
set_option linter.unusedSimpArgs false
set_option linter.unusedVariables false
namespace Go.Proofs.Ytajopaegmocnlaa
def busyN (c:C3):Nat:=if 2≤c.s then 1 else 0
/-- How many cells are not free. -/
def busyC:List C3→Nat
  | []=>0
  | c :: cs=>busyN c+busyC cs
theorem busy_le:∀ l:List C3,busyC l≤l.length
  | []=>Nat.le_refl _
  | c :: cs=>by
    have:=busy_le cs
    have:busyN c≤1:=by unfold busyN;split <;> omega
    simp only [busyC,List.length_cons];omega
theorem busy_set:∀ (l:List C3) (i:Nat) (x d:C3),i<l.length→busyC (l.set i x)+busyN (l.getD i d)=busyC l+busyN x
  | [],i,x,d,h=>by simp at h
  | c :: cs,0,x,d,_=>by simp [busyC];omega
  | c :: cs,i+1,x,d,h=>by
    have:=busy_set cs i x d (by simpa using h)
    simp only [List.set_cons_succ,busyC,List.getD_cons_succ];omega
def Wn (c:Ch):Prop:=c.words.length≤busyC c.cells
theorem wn_max {c:Ch} (h:Wn c) (hl:c.cells.length≤40):c.words.length≤40:=Nat.le_trans h (Nat.le_trans (busy_le _) hl)
theorem busy_far (l:List C3) (i:Nat) (x:C3) (h:¬ i<l.length):l.set i x=l:=List.set_eq_of_length_le (by omega)
/-- A cell is set to one that is at least as busy. -/
theorem wn_set {c:Ch} {i:Int} {x:C3} (h:Wn c) (hx:busyN (cellAt c i)≤busyN x):Wn (setAt c i x):=by
  unfold Wn setAt at *
  by_cases hi:i.toNat<c.cells.length
  · have:=busy_set c.cells i.toNat x ⟨0,0,0⟩ hi
    unfold cellAt at hx
    simp only;omega
  · simp only [busy_far _ _ _ hi];exact h
theorem busy_one {x:C3} (h:2≤x.s):busyN x=1:=by simp [busyN,h]
theorem busy_top (x:C3):busyN x≤1:=by unfold busyN;split <;> omega
theorem wn_state {c:Ch} {i st:Int} (h:Wn c) (hs:2≤st):Wn (stateC c i st):=wn_set h (by rw [busy_one (x:={ cellAt c i with s:=st }) hs];exact busy_top _)
theorem turnS_cases (s e t f n v:Int):(turnB s e t f n v=true∧s=f∧turnS s e t f n v=n)∨(turnB s e t f n v=false∧turnS s e t f n v=s):=by
  by_cases h:turnB s e t f n v=true
  · refine .inl ⟨h,?_,by simp [turnS,h]⟩
    simp [turnB] at h
    exact h.1
  · exact .inr ⟨by simpa using h,by simp [turnS,h]⟩
theorem wn_turn {c:Ch} {i f t v:Int} (h:Wn c) (ht:2≤t∨f<2):Wn (turnC c i f t v):=by
  refine wn_set h ?_
  rcases turnS_cases (cellAt c i).s (cellAt c i).e (cellAt c i).t f t v with ⟨_,e1,e2⟩|⟨_,e2⟩
  · rcases ht with ht|ht
    · rw [busy_one (x:=turnX (cellAt c i) f t v) (by show 2≤turnS _ _ _ _ _ _;rw [e2];exact ht)];exact busy_top _
    · have:¬ 2≤(cellAt c i).s:=by omega
      simp [busyN,this]
  · simp only [busyN,turnX,e2];exact Nat.le_refl _
theorem wn_lay {c:Ch} {i m:Int} (h:Wn c):Wn (layC c i m):=wn_set h (Nat.le_refl _)
theorem wn_tell {c:Ch} {v x:Int} (h:Wn c):Wn (tellC c v x):=by
  unfold tellC
  split
  · unfold Wn at *;simpa using h
  · exact h
/-- One who waits has a word more, and a free cell less. -/
theorem wn_wait {c:Ch} {h:Ha} {st th el:Int} (H:Wn c) (hs:h.seen<2) (ht:2≤st) (hi:h.cell.toNat<c.cells.length):Wn (wait6 c h st th el).1:=by
  unfold wait6
  split
  · exact H
  · split
    · rename_i hb
      unfold turnCB turnXB at hb
      have e1:(cellAt c h.cell).s=h.seen:=by simp [turnB] at hb;exact hb.1
      have B:=busy_set c.cells h.cell.toNat (turnX (cellAt c h.cell) h.seen st (c.words.length+1)) ⟨0,0,0⟩ hi
      have b0:busyN (c.cells.getD h.cell.toNat ⟨0,0,0⟩)=0:=by
        have:¬ 2≤(cellAt c h.cell).s:=by omega
        exact if_neg this
      have b1:busyN (turnX (cellAt c h.cell) h.seen st (c.words.length+1))=1:=busy_one (by show 2≤turnS _ _ _ _ _ _;simp only [turnS,hb];exact ht)
      unfold Wn turnC setAt at *
      simp only [List.length_append,List.length_cons,List.length_nil]
      omega
    · exact wn_turn H (.inl ht)
def KeepN (c:Ch) (s:St):Prop:=Wn c→s.2.2=true→Wn s.1
theorem keep_no (c:Ch) (a:Ch) (b:Ha):KeepN c (a,b,false):=fun _ e=>by cases e
theorem keep_nothing (c:Ch):KeepN c nothing:=fun _ e=>by cases e
theorem keep_done {c c':Ch} {h':Ha} (H:Wn c→Wn c'):KeepN c (done c' h'):=by
  unfold done
  split
  · exact fun h _=>H h
  · exact keep_nothing c
theorem cell_in {c:Ch} {h:Ha} {f t k:Int} (e:stepOk c h f t k=true):h.cell.toNat<c.cells.length∧h.grow.toNat<c.cells.length:=by
  simp only [stepOk,handOk,handB,Bool.and_eq_true,inB_iff] at e
  have:=(chan_parts e.1).1
  obtain ⟨_,⟨_,⟨⟨a0,a1⟩,⟨b0,b1⟩,_⟩,_⟩,_⟩:=e
  omega
theorem wn_send (c:Ch) (h:Ha):KeepN c (sendStep c h):=by
  unfold sendStep
  split
  · rename_i e
    have hi:=(cell_in e).1
    repeat' split
    · unfold send1;split <;> exact keep_done fun H=>H
    · exact keep_done fun H=>wn_lay H
    · unfold send3;split
      · exact keep_done fun H=>H
      · exact keep_nothing c
    · exact keep_done fun H=>H
    · exact keep_done fun H=>H
    · unfold put6
      split
      · exact keep_nothing c
      · split
        · rename_i e2
          simp at e2
          exact keep_done fun H=>wn_wait H (by omega) (by decide) hi
        · split <;> exact keep_done fun H=>wn_turn H (.inl (by decide))
    · exact keep_done fun H=>wn_tell H
    · exact keep_done fun H=>wn_state H (by decide)
  · exact keep_nothing c
theorem wn_recv (c:Ch) (h:Ha):KeepN c (recvStep c h):=by
  unfold recvStep
  split
  · rename_i e
    have hi:=(cell_in e).1
    repeat' split
    · unfold recv1;split <;> exact keep_done fun H=>H
    · unfold recv2
      repeat' split
      · exact keep_no c _ _
      · exact keep_done fun H=>H
      · exact keep_nothing c
    · exact keep_done fun H=>H
    · unfold take7 turn7
      repeat' split
      all_goals first|exact keep_nothing c|exact keep_done fun H=>wn_turn H (.inl (by decide))|skip
      rename_i h2 _
      simp at h2
      exact keep_done fun H=>wn_wait H (by omega) (by decide) hi
    · exact keep_done fun H=>wn_tell H
    · exact keep_done fun H=>wn_state H (by decide)
    · exact keep_done fun H=>wn_state H (by decide)
  · exact keep_nothing c
theorem wn_grow (c:Ch) (h:Ha):KeepN c (growStep c h):=by
  unfold growStep
  repeat' split
  all_goals try exact keep_nothing c
  · unfold begin8;split <;> exact keep_done fun H=>H
  · exact keep_done fun H=>H
  · exact keep_done fun H=>H
  · unfold meetStep;split
    · exact keep_no c _ _
    · exact keep_done fun H=>H
  · unfold pull8 turn8
    repeat' split
    all_goals first|exact keep_nothing c|exact keep_done fun H=>wn_turn H (.inl (by decide))|skip
    all_goals
      rename_i h0 _
      simp at h0
      exact keep_done fun H=>wn_turn H (.inr (by omega))
  · exact keep_done fun H=>wn_tell H
  · exact keep_done fun H=>wn_state H (by decide)
  · exact keep_done fun H=>wn_state H (by decide)
theorem wn_park (c:Ch) (h:Ha):KeepN c (parkStep c h):=by
  unfold parkStep
  repeat' split
  all_goals try exact keep_nothing c
  · unfold park9
    repeat' split
    all_goals first|exact keep_no c _ _|exact keep_done fun H=>H
  · exact keep_done fun H=>H
  · exact keep_done fun H=>wn_state H (by unfold goneS;split <;> decide)
theorem wn_step (c:Ch) (h:Ha):KeepN c (stepC c h):=by
  unfold stepC
  repeat' split
  · exact wn_send c h
  · exact wn_recv c h
  · exact wn_grow c h
  · exact wn_park c h
theorem step11_wn {x:Wo} {who:Int} (hx:RightW x) (ht:taskOk x who=true) (h:Wn x.ch) (hs:(step11 x who).2=true):Wn (step11 x who).1.ch:=by
  obtain ⟨_,_,_,r4,r5⟩:=step_right hx ht hs
  rw [r4]
  exact wn_step _ _ h r5
/-- A right world in which there are no more words than cells that are not free, of so many tasks. -/
structure GoodW (n:Nat) (x:Wo):Prop where
  right:RightW x
  wn:Wn x.ch
  len:x.hands.length=n
theorem step11_no {x:Wo} {who:Int} (h:(step11 x who).2=false):(step11 x who).1=x:=by
  unfold step11 stepW at *
  repeat' split at h
  all_goals first|cases h|skip
  all_goals simp_all
theorem GoodW.step {n:Nat} {x:Wo} {who:Int} (h:GoodW n x) (ht:taskOk x who=true):GoodW n (step11 x who).1:=by
  cases hs:(step11 x who).2 with
  | true =>
    obtain ⟨r1,r2,_⟩:=step_right h.right ht hs
    exact ⟨r1,step11_wn h.right ht h.wn hs,r2.trans h.len⟩
  | false=>rw [step11_no hs];exact h
theorem GoodW.task {n:Nat} {x:Wo} {i:Nat} (h:GoodW n x) (hi:i<n):taskOk x i=true:=by
  have:=h.len
  simp [taskOk,taskB,inB];omega
theorem GoodW.words {n:Nat} {x:Wo} (h:GoodW n x):x.ch.words.length≤40∧x.ch.cells.length=40:=by
  have:=chan_parts h.right.ch
  exact ⟨wn_max h.wn (by omega),this.1⟩
end Go.Proofs.Ytajopaegmocnlaa
set_option linter.unusedSimpArgs false
set_option linter.unusedVariables false
namespace Go.Proofs.Ytajopaegmocnlaa
def sameC (a b:C3):Bool:=a.s == b.s && (a.e == b.e && a.t == b.t)
theorem sameC_self (a:C3):sameC a a=true:=by simp [sameC]
/-- How many cells, how many words are others. -/
def diffC:List C3→List C3→Nat
  | a :: l,b :: m=>(if sameC a b then 0 else 1)+diffC l m
  | _,_=>0
def diffI:List Int→List Int→Nat
  | a :: l,b :: m=>(if a == b then 0 else 1)+diffI l m
  | _,_=>0
def oneN (a b:Int):Nat:=if a == b then 0 else 1
def touchedN (c d:Ch):Nat:=oneN c.sent d.sent+oneN c.got d.got+oneN c.fin d.fin+diffC c.cells d.cells+diffI c.words d.words
theorem diffC_self:∀ l:List C3,diffC l l=0
  | []=>rfl
  | a :: l=>by simp [diffC,sameC_self,diffC_self l]
theorem diffI_self:∀ l:List Int,diffI l l=0
  | []=>rfl
  | a :: l=>by simp [diffI,diffI_self l]
theorem diffI_more:∀ (l m:List Int),diffI l (l ++ m)=0
  | [],m=>by cases m <;> rfl
  | a :: l,m=>by simp [diffI,diffI_more l m]
theorem diffC_set:∀ (l:List C3) (i:Nat) (x:C3),diffC l (l.set i x)≤1
  | [],_,_=>by simp [diffC]
  | a :: l,0,x=>by
    simp only [List.set_cons_zero,diffC,diffC_self]
    split <;> omega
  | a :: l,i+1,x=>by
    have:=diffC_set l i x
    simp only [List.set_cons_succ,diffC,sameC_self]
    simpa using this
theorem diffI_set:∀ (l:List Int) (i:Nat) (x:Int),diffI l (l.set i x)≤1
  | [],_,_=>by simp [diffI]
  | a :: l,0,x=>by
    simp only [List.set_cons_zero,diffI,diffI_self]
    split <;> omega
  | a :: l,i+1,x=>by
    have:=diffI_set l i x
    simp only [List.set_cons_succ,diffI]
    simpa using this
theorem oneN_self (a:Int):oneN a a=0:=by simp [oneN]
theorem oneN_le (a b:Int):oneN a b≤1:=by unfold oneN;split <;> omega
theorem touch_none (c:Ch):touchedN c c≤1:=by simp [touchedN,oneN_self,diffC_self,diffI_self]
theorem touch_sent (c:Ch) (n:Int):touchedN c { c with sent:=n }≤1:=by have:=oneN_le c.sent n;simp [touchedN,oneN_self,diffC_self,diffI_self];exact this
theorem touch_set (c:Ch) (i:Int) (x:C3):touchedN c (setAt c i x)≤1:=by have:=diffC_set c.cells i.toNat x;simp [touchedN,setAt,oneN_self,diffI_self];exact this
theorem touch_more (c:Ch) (i:Int) (x:C3) (m:List Int):touchedN c { setAt c i x with words:=c.words ++ m }≤1:=by have:=diffC_set c.cells i.toNat x;simp [touchedN,setAt,oneN_self,diffI_more];exact this
theorem touch_tell (c:Ch) (v x:Int):touchedN c (tellC c v x)≤1:=by
  unfold tellC
  split
  · have:=diffI_set c.words (v - 1).toNat x;simp only [touchedN,oneN_self,diffC_self,Nat.zero_add];exact this
  · exact touch_none c
theorem touch_wait (c:Ch) (h:Ha) (st th el:Int):touchedN c (wait6 c h st th el).1≤1:=by
  unfold wait6
  repeat' split
  · exact touch_none c
  · exact touch_more c _ _ _
  · exact touch_set c _ _
/-- What a step leaves of the channel. -/
def KeepT (c:Ch) (s:St):Prop:=s.2.2=true→chanOk s.1=true∧handOk s.2.1=true∧touchedN c s.1≤1∧c.fin≤s.1.fin∧s.1.words.length≤c.words.length+1
theorem keepT_nothing (c:Ch):KeepT c nothing:=fun e=>by cases e
theorem keepT_done {c c':Ch} {h':Ha} (H:touchedN c c'≤1) (hf:c.fin≤c'.fin) (hw:c'.words.length≤c.words.length+1):KeepT c (done c' h'):=by
  unfold done
  split
  · rename_i e
    simp at e
    exact fun _=>⟨e.1,e.2,H,hf,hw⟩
  · exact keepT_nothing c
theorem tell_fin (c:Ch) (v x:Int):(tellC c v x).fin=c.fin:=by unfold tellC;split <;> rfl
theorem wait_fin (c:Ch) (h:Ha) (st th el:Int):(wait6 c h st th el).1.fin=c.fin:=by
  unfold wait6
  repeat' split
  all_goals rfl
theorem wait_words (c:Ch) (h:Ha) (st th el:Int):(wait6 c h st th el).1.words.length≤c.words.length+1:=by
  unfold wait6;repeat' split
  all_goals simp [turnC,setAt]
theorem kN {c:Ch} {h':Ha}:KeepT c (done c h'):=keepT_done (touch_none c) (Int.le_refl _) (by omega)
theorem kS {c:Ch} {h':Ha} (i:Int) (x:C3):KeepT c (done (setAt c i x) h'):=keepT_done (touch_set c i x) (Int.le_refl _) (by simp [setAt])
theorem kSt {c:Ch} {h':Ha} (i st:Int):KeepT c (done (stateC c i st) h'):=kS i _
theorem kTu {c:Ch} {h':Ha} (i f t v:Int):KeepT c (done (turnC c i f t v) h'):=kS i _
theorem kLa {c:Ch} {h':Ha} (i m:Int):KeepT c (done (layC c i m) h'):=kS i _
theorem kT {c:Ch} {h':Ha} (v x:Int):KeepT c (done (tellC c v x) h'):=keepT_done (touch_tell c v x) (by rw [tell_fin];exact Int.le_refl _) (by rw [tell_len];omega)
theorem kW {c:Ch} {h' h:Ha} (st th el:Int):KeepT c (done (wait6 c h st th el).1 h'):=keepT_done (touch_wait c h st th el) (by rw [wait_fin];exact Int.le_refl _) (wait_words c h st th el)
theorem touch_send (c:Ch) (h:Ha):KeepT c (sendStep c h):=by
  unfold sendStep
  repeat' split
  all_goals try exact keepT_nothing c
  · unfold send1;split
    · exact kN
    · exact keepT_done (touch_sent c _) (Int.le_refl _) (by simp)
  · exact kLa _ _
  · unfold send3;split
    · exact kN
    · exact keepT_nothing c
  · exact kN
  · exact kN
  · unfold put6
    repeat' split
    all_goals first|exact keepT_nothing c|with_reducible exact kTu _ _ _ _|with_reducible exact kW _ _ _
  · exact kT _ _
  · exact kSt _ _
/-- What is answered holds lists that are not too long. -/
def LenS (c:Ch) (s:St):Prop:=(c.cells.length≤1048576→s.1.cells.length≤1048576)∧(c.words.length≤1048576→s.1.words.length≤1048576)
theorem len_of {c:Ch} {s:St} (h:KeepT c s) (h2:s.2.2=false→s.1=c∨s.1=Ch.zero):LenS c s:=by
  cases hs:s.2.2 with
  | true =>
    have:=chan_parts (h hs).1
    exact ⟨fun _=>by omega,fun _=>by omega⟩
  | false =>
    rcases h2 hs with e|e <;> rw [LenS,e]
    · exact ⟨id,id⟩
    · exact ⟨fun _=>by simp [Ch.zero],fun _=>by simp [Ch.zero]⟩
def NoS (c:Ch) (s:St):Prop:=s.2.2=false→s.1=c∨s.1=Ch.zero
theorem no_done {c c':Ch} {h':Ha}:NoS c (done c' h'):=by
  unfold done
  split
  · exact fun e=>by cases e
  · exact fun _=>.inr rfl
theorem no_nothing {c:Ch}:NoS c nothing:=fun _=>.inr rfl
theorem no_same {c:Ch} {h:Ha} {b:Bool}:NoS c (c,h,b):=fun _=>.inl rfl
theorem no_send (c:Ch) (h:Ha):NoS c (sendStep c h):=by
  unfold sendStep
  repeat' split
  all_goals first|exact no_nothing|with_reducible exact no_done|(unfold send1;(repeat' split) <;> (first|exact no_nothing|with_reducible exact no_done|exact no_same);done)|(unfold send2;(repeat' split) <;> (first|exact no_nothing|with_reducible exact no_done|exact no_same);done)|(unfold send3;(repeat' split) <;> (first|exact no_nothing|with_reducible exact no_done|exact no_same);done)|(unfold put6;(repeat' split) <;> (first|exact no_nothing|with_reducible exact no_done|exact no_same);done)
theorem len_send (c:Ch) (h:Ha):LenS c (sendStep c h):=len_of (touch_send c h) (no_send c h)
end Go.Proofs.Ytajopaegmocnlaa
set_option linter.unusedSimpArgs false
set_option linter.unusedVariables false
namespace Go.Proofs.Ytajopaegmocnlaa
open Go.RowKit
set_option linter.unusedSimpArgs false
attribute [local simp] bx_size
attribute [local go_sem ↓] zeroHand zeroChan toLHand toLChan toVHand toVChan storeHand storeChan storeHandC storeChanC
attribute [local go_sem ↓] toLHandL toLChanL
set_option maxRecDepth 100000 in
set_option maxHeartbeats 8000000 in
theorem exactSendStep_any (c:Ch) (h:Ha) (a b:Option Addr) (p q:Nat) (w:World) (h1:Seg w w.heap.size a c.cells.length 3 (cellF c.cells)) (h2:Seg w w.heap.size b c.words.length 1 (intF c.words)) (m1:c.cells.length≤maxLen) (m2:c.words.length≤maxLen) :
    Calls Try.prog 3 #[.agg (cvals c (.slice a c.cells.length p) (.slice b c.words.length q)),.agg (hvals h)] w fun r w'=>r=.returned (.bool true)∧Below w.heap.size w w':=by
  have H1:=Lib.hid h1
  have H2:=Lib.hid h2
  have M1:=Lib.hid m1
  have M2:=Lib.hid m2
  clear h1 h2 m1 m2
  by_cases hl:leftC 1048576 c<0
  · go_enter Try.func3,Try.ntmps3
    go_wp2_with fail
    refine (szChan_any c a b p q 1048576 _ (by omega) (by omega) M1.out M2.out).mono ?_
    rintro _ w1 ⟨rfl,hb1⟩
    have hB1:Below w.heap.size w w1:=bT (by exact zB) hb1
    go_wp2
    go_ret
    exact ⟨rfl,hB1⟩
  · obtain ⟨n1,n2⟩:=left_len hl
    have n3:(sendStep c h).1.cells.length≤1048576:=(len_send c h).1 n1
    have n4:(sendStep c h).1.words.length≤1048576:=(len_send c h).2 n2
    have hs:=fun a b p q w h1 z1 h2 z2=>sSendStep_any c h a b p q w h1 z1 h2 z2
    have hi:=fun a b p q w h1 z1 h2 z2=>sendStepI_any c h a b p q w h1 z1 h2 z2 M1.out M2.out
    generalize sendStep c h=x at *
    have HS:=Lib.hid hs
    have HI:=Lib.hid hi
    clear hs hi
    have hk0:¬ 1+3*(c.cells.length:Int)+c.words.length<0:=by omega
    have hk1:¬ 1+3*(x.1.cells.length:Int)+x.1.words.length<0:=by omega
    go_enter Try.func3,Try.ntmps3
    go_wp2_with fail
    refine (szChan_any c a b p q 1048576 _ (by omega) (by omega) M1.out M2.out).mono ?_
    rintro _ w1 ⟨rfl,hbw1⟩
    have hB1:Below w.heap.size w w1:=bT (by exact zB) hbw1
    have hC1:Below w.heap.size w w1:=bT (by exact zB) hbw1
    have hsw1:=hbw1.size;(try (simp at hsw1));have zz:=hQ hbw1 (b:=w.heap.size);(first|(simp [go_sem,z_w,l_w] at zz)|(simp [go_sem] at zz));(try clear x_w f_w);(try clear z_w);have z_w:=zz;clear zz;(try clear l_w);obtain ⟨x_w,f_w,l_w⟩:=bO z_w;have zz:=hQ hbw1 (b:=w.heap.size+1);(first|(simp [go_sem,z_wp,l_wp] at zz)|(simp [go_sem] at zz));(try clear x_wp f_wp);(try clear z_wp);have z_wp:=zz;clear zz;(try clear l_wp);obtain ⟨x_wp,f_wp,l_wp⟩:=bO z_wp
    clear hbw1
    go_upto_region 5 with fail
    refine wp_region_inv [[],[0],[],[2],[0,1,2,3],[0,1,2,3,4],[0,1,2,3,4,5],[0,1,2,3,4,5],[0,1,2,3,4,5],[],[],[0,1,2,3,4,5,6,9],[0,1,2,3,4,5,7,10],[0,1,2,3,4,5,8]] [25,26,27,28,29,24,30,31,32,6,7,8] (fun l s wx=>(Below w1.heap.size w1 wx)∧(l 0=true→s 25=.agg (cvals c (.slice a c.cells.length p) (.slice b c.words.length q)))∧(l 1=true→l 4=false→∃ g1 g2:Nat,s 26=.agg (cvals c (.slice (some ⟨g1,0,none⟩) c.cells.length c.cells.length) (.slice (some ⟨g2,0,none⟩) c.words.length c.words.length))∧Row wx g1 52 c.cells.length 3 (cellF c.cells)∧Row wx g2 2 c.words.length 1 (intF c.words))∧(l 2=true→s 27=.agg (hvals h))∧(l 3=true→s 28=.agg (hvals h))∧(l 4=true→s 29=.tuple #[.agg (cvals x.1 (s 1003) (s 1004)),.agg (hvals x.2.1),.bool x.2.2]∧OCells wx w1.heap.size (s 1003) x.1.cells∧OInts wx w1.heap.size (s 1004) x.1.words)∧(l 5=true→s 24=.tuple #[.agg (cvals x.1 (s 1003) (s 1004)),.agg (hvals x.2.1),.bool x.2.2])∧(l 6=true→s 30=.agg (cvals x.1 (s 1003) (s 1004)))∧(l 7=true→s 31=.agg (hvals x.2.1))∧(l 8=true→s 32=.bool x.2.2)∧(l 9=true→IsBox wx (s 6) w1.heap.size (cond (l 11) (cvals x.1 (s 1003) (s 1004)) (cvals Ch.zero (.slice none 0 0) (.slice none 0 0))) 33)∧(l 10=true→IsBox wx (s 7) w1.heap.size (cond (l 12) (hvals x.2.1) (hvals Ha.zero)) 36)∧(l 13=true→s 8=.bool x.2.2)) (by kernel_rfl) (by kernel_rfl) (by kernel_rfl) (fun s=>by (simp only [fill,fillA,List.setIfInBounds_toArray,List.set_cons_zero,List.set_cons_succ];rfl)) (fun s=>⟨(Below.refl _ _).drew,fun h=>absurd h Bool.false_ne_true,fun h=>absurd h Bool.false_ne_true,fun h=>absurd h Bool.false_ne_true,fun h=>absurd h Bool.false_ne_true,fun h=>absurd h Bool.false_ne_true,fun h=>absurd h Bool.false_ne_true,fun h=>absurd h Bool.false_ne_true,fun h=>absurd h Bool.false_ne_true,fun h=>absurd h Bool.false_ne_true,fun h=>absurd h Bool.false_ne_true,fun h=>absurd h Bool.false_ne_true,fun h=>absurd h Bool.false_ne_true⟩) ?_ ?_
    refine ⟨?_,?_,?_,?_,?_,?_,?_,?_,?_,?_,?_,?_,?_,?_,trivial⟩;rotate_left 14
    intro l s w5 hall hf
    have hB:=hf.1
    have X1:=(hf.2.2.2.2.2.1 (hall 4 rfl)).2.1
    have X2:=(hf.2.2.2.2.2.1 (hall 4 rfl)).2.2
    obtain ⟨b6,ea,lo_b6,z_b6⟩:=hf.2.2.2.2.2.2.2.2.2.2.1 (hall 9 rfl)
    obtain ⟨b7,eb,lo_b7,z_b7⟩:=hf.2.2.2.2.2.2.2.2.2.2.2.1 (hall 10 rfl)
    have ec:=hf.2.2.2.2.2.2.2.2.2.2.2.2 (hall 13 rfl)
    rw [hall 11 rfl] at z_b6
    rw [hall 12 rfl] at z_b7
    dsimp only [cond] at z_b6 z_b7
    simp only [ea,eb,ec]
    clear ea eb ec hf hall
    generalize s 1003=v1 at *
    generalize s 1004=v2 at *
    have hC5:Below w1.heap.size w1 w5:=hB
    have hB5:Below w.heap.size w w5:=bT hB1 hB
    clear hB
    obtain ⟨x_b6,f_b6,l_b6⟩:=bO z_b6
    obtain ⟨x_b7,f_b7,l_b7⟩:=bO z_b7
    have u_w:=l_wp
    have u_b6:=l_b6
    have u_b7:=l_b7
    have u_5:=hC5.size
    replace z_w:=hpS z_w hC5
    clear x_w f_w l_w
    obtain ⟨x_w,f_w,l_w⟩:=bO z_w
    replace z_wp:=hpS z_wp hC5
    clear x_wp f_wp l_wp
    obtain ⟨x_wp,f_wp,l_wp⟩:=bO z_wp
    have lX:∀ i,(v1.ownBlock=some i∨v2.ownBlock=some i)→i<w5.heap.size:=fun i hi=>hi.elim (fun h=>(X1.lt i h).2) (fun h=>(X2.lt i h).2)
    replace X1:=OCells.new X1
    replace X2:=OInts.new X2
    obtain ⟨xa,xc,rfl,_⟩:=X1.seg
    obtain ⟨xb,xd,rfl,_⟩:=X2.seg
    go_wp2_with fail
    refine (toChan_any c a b p q _ ((H1.out.below (by exact zB)).more (by (try simp) <;> omega)) ((H2.out.below (by exact zB)).more (by (try simp) <;> omega)) n1 n2).mono ?_
    rintro _ w6 ⟨⟨g3,g4,rfl,lg3,lg4,Rg3,Rg4⟩,hbw6⟩
    have hB6:Below w.heap.size w w6:=bT (by exact zB) hbw6
    have hC6:Below w5.heap.size w5 w6:=bT (by exact zB) hbw6
    replace X1:=X1.below hC6
    replace X2:=X2.below hC6
    have hsw6:=hbw6.size;(try (simp at hsw6));have zz:=hQ hbw6 (b:=w.heap.size);(first|(simp [go_sem,z_w,l_w] at zz)|(simp [go_sem] at zz));(try clear x_w f_w);(try clear z_w);have z_w:=zz;clear zz;(try clear l_w);obtain ⟨x_w,f_w,l_w⟩:=bO z_w;have zz:=hQ hbw6 (b:=w.heap.size+1);(first|(simp [go_sem,z_wp,l_wp] at zz)|(simp [go_sem] at zz));(try clear x_wp f_wp);(try clear z_wp);have z_wp:=zz;clear zz;(try clear l_wp);obtain ⟨x_wp,f_wp,l_wp⟩:=bO z_wp;have zz:=hQ hbw6 (b:=b6);(first|(simp [go_sem,z_b6,l_b6] at zz)|(simp [go_sem] at zz));(try clear x_b6 f_b6);(try clear z_b6);have z_b6:=zz;clear zz;(try clear l_b6);obtain ⟨x_b6,f_b6,l_b6⟩:=bO z_b6;have zz:=hQ hbw6 (b:=b7);(first|(simp [go_sem,z_b7,l_b7] at zz)|(simp [go_sem] at zz));(try clear x_b7 f_b7);(try clear z_b7);have z_b7:=zz;clear zz;(try clear l_b7);obtain ⟨x_b7,f_b7,l_b7⟩:=bO z_b7
    clear hbw6
    have bg3:=Rg3.lt
    have bg4:=Rg4.lt
    have hne:g3≠g4:=row_ne Rg3 Rg4 (by decide)
    try simp at lg3 lg4
    go_upto_region 7 with fail
    generalize hw7:World.alloc w6 _=w7
    have z_w6:hp w7 w6.heap.size=some (.cells (cvals c (.slice (some ⟨g3,0,none⟩) c.cells.length c.cells.length) (.slice (some ⟨g4,0,none⟩) c.words.length c.words.length)) 33):=by rw [← hw7];simp [go_sem] <;> rfl
    have hC7:Below w6.heap.size w6 w7:=by rw [← hw7];exact belowAlloc _ _
    clear hw7
    have hB7:Below w.heap.size w w7:=bT hB6 hC7
    have C3:NewC w7 w.heap.size (.slice (some ⟨g3,0,none⟩) c.cells.length c.cells.length) c.cells:=.inr ⟨g3,_,rfl,by have:=hB5.size;omega,(Rg3.belowS hC7).lie⟩
    have C4:NewI w7 w.heap.size (.slice (some ⟨g4,0,none⟩) c.words.length c.words.length) c.words:=.inr ⟨g4,_,rfl,by have:=hB5.size;omega,(Rg4.belowS hC7).lie⟩
    clear Rg3 Rg4
    have hs7:=hC7.size
    have u_6:=hC6.size
    have u_w6:=(bO z_w6).2.2
    obtain ⟨x_w6,f_w6,l_w6⟩:=bO z_w6
    replace X1:=X1.below hC7
    replace X2:=X2.below hC7
    replace z_w:=hpS z_w hC7
    clear x_w f_w l_w
    obtain ⟨x_w,f_w,l_w⟩:=bO z_w
    replace z_wp:=hpS z_wp hC7
    clear x_wp f_wp l_wp
    obtain ⟨x_wp,f_wp,l_wp⟩:=bO z_wp
    replace z_b6:=hpS z_b6 hC7
    clear x_b6 f_b6 l_b6
    obtain ⟨x_b6,f_b6,l_b6⟩:=bO z_b6
    replace z_b7:=hpS z_b7 hC7
    clear x_b7 f_b7 l_b7
    obtain ⟨x_b7,f_b7,l_b7⟩:=bO z_b7
    refine wp_region_inv [[],[],[1],[0,1,2],[0,1,2,3],[0,1,2,3,4],[0,1,2,3,4],[0,1,2,3,4],[],[],[0,1,2,3,4,5,8],[0,1,2,3,4,6,9],[0,1,2,3,4,7]] [36,37,38,39,35,40,41,42,10,11,12] (fun l s wx=>(Below w7.heap.size w7 wx)∧(l 0=true→s 36=.agg (cvals c (.slice (some ⟨g3,0,none⟩) c.cells.length c.cells.length) (.slice (some ⟨g4,0,none⟩) c.words.length c.words.length)))∧(l 1=true→s 37=.agg (hvals h))∧(l 2=true→s 38=.agg (hvals h))∧(l 3=true→s 39=.tuple #[.agg (cvals x.1 (s 1003) (s 1004)),.agg (hvals x.2.1),.bool x.2.2]∧OCells wx w7.heap.size (s 1003) x.1.cells∧OInts wx w7.heap.size (s 1004) x.1.words)∧(l 4=true→s 35=.tuple #[.agg (cvals x.1 (s 1003) (s 1004)),.agg (hvals x.2.1),.bool x.2.2])∧(l 5=true→s 40=.agg (cvals x.1 (s 1003) (s 1004)))∧(l 6=true→s 41=.agg (hvals x.2.1))∧(l 7=true→s 42=.bool x.2.2)∧(l 8=true→IsBox wx (s 10) w7.heap.size (cond (l 10) (cvals x.1 (s 1003) (s 1004)) (cvals Ch.zero (.slice none 0 0) (.slice none 0 0))) 33)∧(l 9=true→IsBox wx (s 11) w7.heap.size (cond (l 11) (hvals x.2.1) (hvals Ha.zero)) 36)∧(l 12=true→s 12=.bool x.2.2)) (by kernel_rfl) (by kernel_rfl) (by kernel_rfl) (fun s=>by (simp only [fill,fillA,List.setIfInBounds_toArray,List.set_cons_zero,List.set_cons_succ];rfl)) (fun s=>⟨(Below.refl _ _).drew,fun h=>absurd h Bool.false_ne_true,fun h=>absurd h Bool.false_ne_true,fun h=>absurd h Bool.false_ne_true,fun h=>absurd h Bool.false_ne_true,fun h=>absurd h Bool.false_ne_true,fun h=>absurd h Bool.false_ne_true,fun h=>absurd h Bool.false_ne_true,fun h=>absurd h Bool.false_ne_true,fun h=>absurd h Bool.false_ne_true,fun h=>absurd h Bool.false_ne_true,fun h=>absurd h Bool.false_ne_true⟩) ?_ ?_
    refine ⟨?_,?_,?_,?_,?_,?_,?_,?_,?_,?_,?_,?_,?_,trivial⟩;rotate_left 13
    intro l s w8 hall hf
    have hB:=hf.1
    have Y1:=(hf.2.2.2.2.1 (hall 3 rfl)).2.1
    have Y2:=(hf.2.2.2.2.1 (hall 3 rfl)).2.2
    obtain ⟨b10,ea,lo_b10,z_b10⟩:=hf.2.2.2.2.2.2.2.2.2.1 (hall 8 rfl)
    obtain ⟨b11,eb,lo_b11,z_b11⟩:=hf.2.2.2.2.2.2.2.2.2.2.1 (hall 9 rfl)
    have ec:=hf.2.2.2.2.2.2.2.2.2.2.2 (hall 12 rfl)
    rw [hall 10 rfl] at z_b10
    rw [hall 11 rfl] at z_b11
    dsimp only [cond] at z_b10 z_b11
    simp only [ea,eb,ec]
    clear ea eb ec hf hall
    generalize s 1003=y1 at *
    generalize s 1004=y2 at *
    have hC8:Below w7.heap.size w7 w8:=hB
    have hB8:Below w.heap.size w w8:=bT hB7 hB
    clear hB
    have hs8:=hC8.size
    obtain ⟨x_b10,f_b10,l_b10⟩:=bO z_b10
    obtain ⟨x_b11,f_b11,l_b11⟩:=bO z_b11
    replace X1:=X1.below hC8
    replace X2:=X2.below hC8
    replace C3:=C3.below hC8
    replace C4:=C4.below hC8
    replace z_w:=hpS z_w hC8
    clear x_w f_w l_w
    obtain ⟨x_w,f_w,l_w⟩:=bO z_w
    replace z_wp:=hpS z_wp hC8
    clear x_wp f_wp l_wp
    obtain ⟨x_wp,f_wp,l_wp⟩:=bO z_wp
    replace z_b6:=hpS z_b6 hC8
    clear x_b6 f_b6 l_b6
    obtain ⟨x_b6,f_b6,l_b6⟩:=bO z_b6
    replace z_b7:=hpS z_b7 hC8
    clear x_b7 f_b7 l_b7
    obtain ⟨x_b7,f_b7,l_b7⟩:=bO z_b7
    replace z_w6:=hpS z_w6 hC8
    clear x_w6 f_w6 l_w6
    obtain ⟨x_w6,f_w6,l_w6⟩:=bO z_w6
    have yne:∀ i,y1.ownBlock=some i→y2.ownBlock≠some i:=OCells.ne Y1 Y2
    have yA:∀ i,(y1.ownBlock=some i∨y2.ownBlock=some i)→i≠b10∧i≠b11:=fun i hi=>hi.elim (fun h=>⟨own_offs Y1 z_b10 (by decide) i h,own_offs Y1 z_b11 (by decide) i h⟩) (fun h=>⟨own_offs Y2 z_b10 (by decide) i h,own_offs Y2 z_b11 (by decide) i h⟩)
    have lY:∀ i,(y1.ownBlock=some i∨y2.ownBlock=some i)→w7.heap.size≤i∧i<w8.heap.size:=fun i hi=>hi.elim (fun h=>Y1.lt i h) (fun h=>Y2.lt i h)
    replace Y1:=OCells.new Y1
    replace Y2:=OInts.new Y2
    obtain ⟨ya,yc,rfl,_⟩:=Y1.seg
    obtain ⟨yb,yd,rfl,_⟩:=Y2.seg
    go_wp2_with fail
    refine (eqChan_any x.1 _ _ _ _ _ _ _ _ _ (Y1.segAt (by exact zB)) (Y2.segAt (by exact zB)) (X1.segAt (by exact zB)) (X2.segAt (by exact zB)) n3 n4).mono ?_
    rintro _ w9 ⟨rfl,hbw9⟩
    have hB9:Below w.heap.size w w9:=bT (by exact zB) hbw9
    have hC9:Below w8.heap.size w8 w9:=bT (by exact zB) hbw9
    replace X1:=X1.below hC9
    replace X2:=X2.below hC9
    replace C3:=C3.below hC9
    replace C4:=C4.below hC9
    replace Y1:=Y1.below hC9
    replace Y2:=Y2.below hC9
    have hsw9:=hbw9.size;(try (simp at hsw9));have zz:=hQ hbw9 (b:=w.heap.size);(first|(simp [go_sem,z_w,l_w] at zz)|(simp [go_sem] at zz));(try clear x_w f_w);(try clear z_w);have z_w:=zz;clear zz;(try clear l_w);obtain ⟨x_w,f_w,l_w⟩:=bO z_w;have zz:=hQ hbw9 (b:=w.heap.size+1);(first|(simp [go_sem,z_wp,l_wp] at zz)|(simp [go_sem] at zz));(try clear x_wp f_wp);(try clear z_wp);have z_wp:=zz;clear zz;(try clear l_wp);obtain ⟨x_wp,f_wp,l_wp⟩:=bO z_wp;have zz:=hQ hbw9 (b:=b6);(first|(simp [go_sem,z_b6,l_b6] at zz)|(simp [go_sem] at zz));(try clear x_b6 f_b6);(try clear z_b6);have z_b6:=zz;clear zz;(try clear l_b6);obtain ⟨x_b6,f_b6,l_b6⟩:=bO z_b6;have zz:=hQ hbw9 (b:=b7);(first|(simp [go_sem,z_b7,l_b7] at zz)|(simp [go_sem] at zz));(try clear x_b7 f_b7);(try clear z_b7);have z_b7:=zz;clear zz;(try clear l_b7);obtain ⟨x_b7,f_b7,l_b7⟩:=bO z_b7;have zz:=hQ hbw9 (b:=w6.heap.size);(first|(simp [go_sem,z_w6,l_w6] at zz)|(simp [go_sem] at zz));(try clear x_w6 f_w6);(try clear z_w6);have z_w6:=zz;clear zz;(try clear l_w6);obtain ⟨x_w6,f_w6,l_w6⟩:=bO z_w6;have zz:=hQ hbw9 (b:=b10);(first|(simp [go_sem,z_b10,l_b10] at zz)|(simp [go_sem] at zz));(try clear x_b10 f_b10);(try clear z_b10);have z_b10:=zz;clear zz;(try clear l_b10);obtain ⟨x_b10,f_b10,l_b10⟩:=bO z_b10;have zz:=hQ hbw9 (b:=b11);(first|(simp [go_sem,z_b11,l_b11] at zz)|(simp [go_sem] at zz));(try clear x_b11 f_b11);(try clear z_b11);have z_b11:=zz;clear zz;(try clear l_b11);obtain ⟨x_b11,f_b11,l_b11⟩:=bO z_b11
    clear hbw9
    go_wp2_with fail
    refine (eqHand_any x.2.1 _).mono ?_
    rintro _ w10 ⟨rfl,hbw10⟩
    have hB10:Below w.heap.size w w10:=bT (by exact zB) hbw10
    have hC10:Below w9.heap.size w9 w10:=bT (by exact zB) hbw10
    replace X1:=X1.below hC10
    replace X2:=X2.below hC10
    replace C3:=C3.below hC10
    replace C4:=C4.below hC10
    replace Y1:=Y1.below hC10
    replace Y2:=Y2.below hC10
    have hsw10:=hbw10.size;(try (simp at hsw10));have zz:=hQ hbw10 (b:=w.heap.size);(first|(simp [go_sem,z_w,l_w] at zz)|(simp [go_sem] at zz));(try clear x_w f_w);(try clear z_w);have z_w:=zz;clear zz;(try clear l_w);obtain ⟨x_w,f_w,l_w⟩:=bO z_w;have zz:=hQ hbw10 (b:=w.heap.size+1);(first|(simp [go_sem,z_wp,l_wp] at zz)|(simp [go_sem] at zz));(try clear x_wp f_wp);(try clear z_wp);have z_wp:=zz;clear zz;(try clear l_wp);obtain ⟨x_wp,f_wp,l_wp⟩:=bO z_wp;have zz:=hQ hbw10 (b:=b6);(first|(simp [go_sem,z_b6,l_b6] at zz)|(simp [go_sem] at zz));(try clear x_b6 f_b6);(try clear z_b6);have z_b6:=zz;clear zz;(try clear l_b6);obtain ⟨x_b6,f_b6,l_b6⟩:=bO z_b6;have zz:=hQ hbw10 (b:=b7);(first|(simp [go_sem,z_b7,l_b7] at zz)|(simp [go_sem] at zz));(try clear x_b7 f_b7);(try clear z_b7);have z_b7:=zz;clear zz;(try clear l_b7);obtain ⟨x_b7,f_b7,l_b7⟩:=bO z_b7;have zz:=hQ hbw10 (b:=w6.heap.size);(first|(simp [go_sem,z_w6,l_w6] at zz)|(simp [go_sem] at zz));(try clear x_w6 f_w6);(try clear z_w6);have z_w6:=zz;clear zz;(try clear l_w6);obtain ⟨x_w6,f_w6,l_w6⟩:=bO z_w6;have zz:=hQ hbw10 (b:=b10);(first|(simp [go_sem,z_b10,l_b10] at zz)|(simp [go_sem] at zz));(try clear x_b10 f_b10);(try clear z_b10);have z_b10:=zz;clear zz;(try clear l_b10);obtain ⟨x_b10,f_b10,l_b10⟩:=bO z_b10;have zz:=hQ hbw10 (b:=b11);(first|(simp [go_sem,z_b11,l_b11] at zz)|(simp [go_sem] at zz));(try clear x_b11 f_b11);(try clear z_b11);have z_b11:=zz;clear zz;(try clear l_b11);obtain ⟨x_b11,f_b11,l_b11⟩:=bO z_b11
    clear hbw10
    go_upto_region 10 with fail
    refine wp_region_inv [[],[],[1],[0,1,2],[0,1,2,3]] [58,59,60,61,62] (fun l s wx=>(Below w10.heap.size w10 wx)∧(l 0=true→s 58=.agg (cvals c (.slice (some ⟨g3,0,none⟩) c.cells.length c.cells.length) (.slice (some ⟨g4,0,none⟩) c.words.length c.words.length)))∧(l 1=true→s 59=.agg (cvals c (.slice a c.cells.length p) (.slice b c.words.length q)))∧(l 2=true→∃ g1 g2:Nat,s 60=.agg (cvals c (.slice (some ⟨g1,0,none⟩) c.cells.length c.cells.length) (.slice (some ⟨g2,0,none⟩) c.words.length c.words.length))∧Row wx g1 52 c.cells.length 3 (cellF c.cells)∧Row wx g2 2 c.words.length 1 (intF c.words))∧(l 3=true→s 61=.bool true)∧(l 4=true→s 62=.bool false)) (by kernel_rfl) (by kernel_rfl) (by kernel_rfl) (fun s=>by (simp only [fill,fillA,List.setIfInBounds_toArray,List.set_cons_zero,List.set_cons_succ];rfl)) (fun s=>⟨(Below.refl _ _).drew,fun h=>absurd h Bool.false_ne_true,fun h=>absurd h Bool.false_ne_true,fun h=>absurd h Bool.false_ne_true,fun h=>absurd h Bool.false_ne_true,fun h=>absurd h Bool.false_ne_true⟩) ?_ ?_
    refine ⟨?_,?_,?_,?_,?_,trivial⟩;rotate_left 5
    intro l s w11 hall hf
    have hB:=hf.1
    have ec:=hf.2.2.2.2.2 (hall 4 rfl)
    simp only [ec]
    clear ec hf hall
    have hC11:Below w10.heap.size w10 w11:=hB
    have hB11:Below w.heap.size w w11:=bT hB10 hB
    clear hB
    have hs11:=hC11.size
    replace X1:=X1.below hC11
    replace X2:=X2.below hC11
    replace C3:=C3.below hC11
    replace C4:=C4.below hC11
    replace Y1:=Y1.below hC11
    replace Y2:=Y2.below hC11
    replace z_w:=hpS z_w hC11
    clear x_w f_w l_w
    obtain ⟨x_w,f_w,l_w⟩:=bO z_w
    replace z_wp:=hpS z_wp hC11
    clear x_wp f_wp l_wp
    obtain ⟨x_wp,f_wp,l_wp⟩:=bO z_wp
    replace z_b6:=hpS z_b6 hC11
    clear x_b6 f_b6 l_b6
    obtain ⟨x_b6,f_b6,l_b6⟩:=bO z_b6
    replace z_b7:=hpS z_b7 hC11
    clear x_b7 f_b7 l_b7
    obtain ⟨x_b7,f_b7,l_b7⟩:=bO z_b7
    replace z_w6:=hpS z_w6 hC11
    clear x_w6 f_w6 l_w6
    obtain ⟨x_w6,f_w6,l_w6⟩:=bO z_w6
    replace z_b10:=hpS z_b10 hC11
    clear x_b10 f_b10 l_b10
    obtain ⟨x_b10,f_b10,l_b10⟩:=bO z_b10
    replace z_b11:=hpS z_b11 hC11
    clear x_b11 f_b11 l_b11
    obtain ⟨x_b11,f_b11,l_b11⟩:=bO z_b11
    have bb6:w1.heap.size≤b6:=lo_b6
    have q1:=hB1.size
    have q5:=hC5.size
    have q6:=hC6.size
    go_wp2_with fail
    refine (markChan_any c.cells.length c.words.length (cellF c.cells) (intF c.words) _ _ _ _ _ _ _ _ 1 (1+3*c.cells.length) _ (C3.below (by exact zB)) (C4.below (by exact zB)) (fun i h1 h2=>hne (by simp [Value.ownBlock] at h1 h2;omega)) (by omega) (by omega) rfl n1 n2).mono ?_
    rintro _ w12 ⟨rfl,_,_,hO⟩
    replace hO:Onl (some g3) (some g4) w11 w12:=onlT (onlB (by exact zB)) hO
    have hs12:=hO.2.2.2.1
    have hB12:Below w.heap.size w w12:=bOnl hB11 hO (fun i h=>by simp at h;omega) (fun i h=>by simp at h;omega)
    replace X1:=X1.keptO hO (fun i h e=>by have:=lX i (.inl h);simp at e;omega) (fun i h e=>by have:=lX i (.inl h);simp at e;omega)
    replace X2:=X2.keptO hO (fun i h e=>by have:=lX i (.inr h);simp at e;omega) (fun i h e=>by have:=lX i (.inr h);simp at e;omega)
    replace Y1:=Y1.keptO hO (fun i h e=>by have:=lY i (.inl h);simp at e;omega) (fun i h e=>by have:=lY i (.inl h);simp at e;omega)
    replace Y2:=Y2.keptO hO (fun i h e=>by have:=lY i (.inr h);simp at e;omega) (fun i h e=>by have:=lY i (.inr h);simp at e;omega)
    replace z_w:=(onlHp hO l_w (by simp;omega) (by simp;omega)).trans z_w
    clear x_w f_w l_w
    obtain ⟨x_w,f_w,l_w⟩:=bO z_w
    replace z_wp:=(onlHp hO l_wp (by simp;omega) (by simp;omega)).trans z_wp
    clear x_wp f_wp l_wp
    obtain ⟨x_wp,f_wp,l_wp⟩:=bO z_wp
    replace z_b6:=(onlHp hO l_b6 (by simp;omega) (by simp;omega)).trans z_b6
    clear x_b6 f_b6 l_b6
    obtain ⟨x_b6,f_b6,l_b6⟩:=bO z_b6
    replace z_b7:=(onlHp hO l_b7 (by simp;omega) (by simp;omega)).trans z_b7
    clear x_b7 f_b7 l_b7
    obtain ⟨x_b7,f_b7,l_b7⟩:=bO z_b7
    replace z_w6:=(onlHp hO l_w6 (by simp;omega) (by simp;omega)).trans z_w6
    clear x_w6 f_w6 l_w6
    obtain ⟨x_w6,f_w6,l_w6⟩:=bO z_w6
    replace z_b10:=(onlHp hO l_b10 (by simp;omega) (by simp;omega)).trans z_b10
    clear x_b10 f_b10 l_b10
    obtain ⟨x_b10,f_b10,l_b10⟩:=bO z_b10
    replace z_b11:=(onlHp hO l_b11 (by simp;omega) (by simp;omega)).trans z_b11
    clear x_b11 f_b11 l_b11
    obtain ⟨x_b11,f_b11,l_b11⟩:=bO z_b11
    clear C3 C4 hO
    go_wp2_with fail
    refine (eqChan_any x.1 _ _ _ _ _ _ _ _ _ (Y1.segAt (by exact zB)) (Y2.segAt (by exact zB)) (X1.segAt (by exact zB)) (X2.segAt (by exact zB)) n3 n4).mono ?_
    rintro _ w13 ⟨rfl,hbw13⟩
    have hB13:Below w.heap.size w w13:=bT (by exact zB) hbw13
    have hC13:Below w12.heap.size w12 w13:=bT (by exact zB) hbw13
    replace X1:=X1.below hC13
    replace X2:=X2.below hC13
    replace Y1:=Y1.below hC13
    replace Y2:=Y2.below hC13
    have hsw13:=hbw13.size;(try (simp at hsw13));have zz:=hQ hbw13 (b:=w.heap.size);(first|(simp [go_sem,z_w,l_w] at zz)|(simp [go_sem] at zz));(try clear x_w f_w);(try clear z_w);have z_w:=zz;clear zz;(try clear l_w);obtain ⟨x_w,f_w,l_w⟩:=bO z_w;have zz:=hQ hbw13 (b:=w.heap.size+1);(first|(simp [go_sem,z_wp,l_wp] at zz)|(simp [go_sem] at zz));(try clear x_wp f_wp);(try clear z_wp);have z_wp:=zz;clear zz;(try clear l_wp);obtain ⟨x_wp,f_wp,l_wp⟩:=bO z_wp;have zz:=hQ hbw13 (b:=b6);(first|(simp [go_sem,z_b6,l_b6] at zz)|(simp [go_sem] at zz));(try clear x_b6 f_b6);(try clear z_b6);have z_b6:=zz;clear zz;(try clear l_b6);obtain ⟨x_b6,f_b6,l_b6⟩:=bO z_b6;have zz:=hQ hbw13 (b:=b7);(first|(simp [go_sem,z_b7,l_b7] at zz)|(simp [go_sem] at zz));(try clear x_b7 f_b7);(try clear z_b7);have z_b7:=zz;clear zz;(try clear l_b7);obtain ⟨x_b7,f_b7,l_b7⟩:=bO z_b7;have zz:=hQ hbw13 (b:=w6.heap.size);(first|(simp [go_sem,z_w6,l_w6] at zz)|(simp [go_sem] at zz));(try clear x_w6 f_w6);(try clear z_w6);have z_w6:=zz;clear zz;(try clear l_w6);obtain ⟨x_w6,f_w6,l_w6⟩:=bO z_w6;have zz:=hQ hbw13 (b:=b10);(first|(simp [go_sem,z_b10,l_b10] at zz)|(simp [go_sem] at zz));(try clear x_b10 f_b10);(try clear z_b10);have z_b10:=zz;clear zz;(try clear l_b10);obtain ⟨x_b10,f_b10,l_b10⟩:=bO z_b10;have zz:=hQ hbw13 (b:=b11);(first|(simp [go_sem,z_b11,l_b11] at zz)|(simp [go_sem] at zz));(try clear x_b11 f_b11);(try clear z_b11);have z_b11:=zz;clear zz;(try clear l_b11);obtain ⟨x_b11,f_b11,l_b11⟩:=bO z_b11
    clear hbw13
    go_wp2_with fail
    refine (eqHand_any x.2.1 _).mono ?_
    rintro _ w14 ⟨rfl,hbw14⟩
    have hB14:Below w.heap.size w w14:=bT (by exact zB) hbw14
    have hC14:Below w13.heap.size w13 w14:=bT (by exact zB) hbw14
    replace X1:=X1.below hC14
    replace X2:=X2.below hC14
    replace Y1:=Y1.below hC14
    replace Y2:=Y2.below hC14
    have hsw14:=hbw14.size;(try (simp at hsw14));have zz:=hQ hbw14 (b:=w.heap.size);(first|(simp [go_sem,z_w,l_w] at zz)|(simp [go_sem] at zz));(try clear x_w f_w);(try clear z_w);have z_w:=zz;clear zz;(try clear l_w);obtain ⟨x_w,f_w,l_w⟩:=bO z_w;have zz:=hQ hbw14 (b:=w.heap.size+1);(first|(simp [go_sem,z_wp,l_wp] at zz)|(simp [go_sem] at zz));(try clear x_wp f_wp);(try clear z_wp);have z_wp:=zz;clear zz;(try clear l_wp);obtain ⟨x_wp,f_wp,l_wp⟩:=bO z_wp;have zz:=hQ hbw14 (b:=b6);(first|(simp [go_sem,z_b6,l_b6] at zz)|(simp [go_sem] at zz));(try clear x_b6 f_b6);(try clear z_b6);have z_b6:=zz;clear zz;(try clear l_b6);obtain ⟨x_b6,f_b6,l_b6⟩:=bO z_b6;have zz:=hQ hbw14 (b:=b7);(first|(simp [go_sem,z_b7,l_b7] at zz)|(simp [go_sem] at zz));(try clear x_b7 f_b7);(try clear z_b7);have z_b7:=zz;clear zz;(try clear l_b7);obtain ⟨x_b7,f_b7,l_b7⟩:=bO z_b7;have zz:=hQ hbw14 (b:=w6.heap.size);(first|(simp [go_sem,z_w6,l_w6] at zz)|(simp [go_sem] at zz));(try clear x_w6 f_w6);(try clear z_w6);have z_w6:=zz;clear zz;(try clear l_w6);obtain ⟨x_w6,f_w6,l_w6⟩:=bO z_w6;have zz:=hQ hbw14 (b:=b10);(first|(simp [go_sem,z_b10,l_b10] at zz)|(simp [go_sem] at zz));(try clear x_b10 f_b10);(try clear z_b10);have z_b10:=zz;clear zz;(try clear l_b10);obtain ⟨x_b10,f_b10,l_b10⟩:=bO z_b10;have zz:=hQ hbw14 (b:=b11);(first|(simp [go_sem,z_b11,l_b11] at zz)|(simp [go_sem] at zz));(try clear x_b11 f_b11);(try clear z_b11);have z_b11:=zz;clear zz;(try clear l_b11);obtain ⟨x_b11,f_b11,l_b11⟩:=bO z_b11
    clear hbw14
    go_wp2_with fail
    refine (markChan_any x.1.cells.length x.1.words.length (cellF x.1.cells) (intF x.1.words) _ _ _ _ _ _ _ _ 1 (1+3*x.1.cells.length) _ (Y1.below (by exact zB)) (Y2.below (by exact zB)) yne (by omega) (by omega) rfl n3 n4).mono ?_
    rintro _ w15 ⟨rfl,Z1,Z2,hO⟩
    replace hO:Onl _ _ w14 w15:=onlT (onlB (by exact zB)) hO
    have hs15:=hO.2.2.2.1
    have hB15:Below w.heap.size w w15:=bOnl hB14 hO (fun i h=>by have:=lY i (.inl h);omega) (fun i h=>by have:=lY i (.inr h);omega)
    replace X1:=X1.keptO hO (fun i h e=>by have:=lX i (.inl h);have:=lY i (.inl e);omega) (fun i h e=>by have:=lX i (.inl h);have:=lY i (.inr e);omega)
    replace X2:=X2.keptO hO (fun i h e=>by have:=lX i (.inr h);have:=lY i (.inl e);omega) (fun i h e=>by have:=lX i (.inr h);have:=lY i (.inr e);omega)
    replace z_w:=(onlHp hO l_w (fun e=>by have:=lY _ (.inl e.symm);omega) (fun e=>by have:=lY _ (.inr e.symm);omega)).trans z_w
    clear x_w f_w l_w
    obtain ⟨x_w,f_w,l_w⟩:=bO z_w
    replace z_wp:=(onlHp hO l_wp (fun e=>by have:=lY _ (.inl e.symm);omega) (fun e=>by have:=lY _ (.inr e.symm);omega)).trans z_wp
    clear x_wp f_wp l_wp
    obtain ⟨x_wp,f_wp,l_wp⟩:=bO z_wp
    replace z_b6:=(onlHp hO l_b6 (fun e=>by have:=lY _ (.inl e.symm);omega) (fun e=>by have:=lY _ (.inr e.symm);omega)).trans z_b6
    clear x_b6 f_b6 l_b6
    obtain ⟨x_b6,f_b6,l_b6⟩:=bO z_b6
    replace z_b7:=(onlHp hO l_b7 (fun e=>by have:=lY _ (.inl e.symm);omega) (fun e=>by have:=lY _ (.inr e.symm);omega)).trans z_b7
    clear x_b7 f_b7 l_b7
    obtain ⟨x_b7,f_b7,l_b7⟩:=bO z_b7
    replace z_w6:=(onlHp hO l_w6 (fun e=>by have:=lY _ (.inl e.symm);omega) (fun e=>by have:=lY _ (.inr e.symm);omega)).trans z_w6
    clear x_w6 f_w6 l_w6
    obtain ⟨x_w6,f_w6,l_w6⟩:=bO z_w6
    replace z_b10:=(onlHp hO l_b10 (fun e=>(yA _ (.inl e.symm)).1 rfl) (fun e=>(yA _ (.inr e.symm)).1 rfl)).trans z_b10
    clear x_b10 f_b10 l_b10
    obtain ⟨x_b10,f_b10,l_b10⟩:=bO z_b10
    replace z_b11:=(onlHp hO l_b11 (fun e=>(yA _ (.inl e.symm)).2 rfl) (fun e=>(yA _ (.inr e.symm)).2 rfl)).trans z_b11
    clear x_b11 f_b11 l_b11
    obtain ⟨x_b11,f_b11,l_b11⟩:=bO z_b11
    clear Y1 Y2 hO
    have Y1:=Z1
    have Y2:=Z2
    clear Z1 Z2
    go_wp2_with fail
    refine (heldChan_any x.1.cells.length x.1.words.length _ _ _ _ _ _ _ _ 1 (1+3*x.1.cells.length) _ (Y1.below (by exact zB)) (Y2.below (by exact zB)) (by omega) (by omega) rfl n3 n4).mono ?_
    rintro _ w16 ⟨rfl,hbw16⟩
    have hB16:Below w.heap.size w w16:=bT (by exact zB) hbw16
    have hC16:Below w15.heap.size w15 w16:=bT (by exact zB) hbw16
    replace X1:=X1.below hC16
    replace X2:=X2.below hC16
    replace Y1:=Y1.below hC16
    replace Y2:=Y2.below hC16
    have hsw16:=hbw16.size;(try (simp at hsw16));have zz:=hQ hbw16 (b:=w.heap.size);(first|(simp [go_sem,z_w,l_w] at zz)|(simp [go_sem] at zz));(try clear x_w f_w);(try clear z_w);have z_w:=zz;clear zz;(try clear l_w);obtain ⟨x_w,f_w,l_w⟩:=bO z_w;have zz:=hQ hbw16 (b:=w.heap.size+1);(first|(simp [go_sem,z_wp,l_wp] at zz)|(simp [go_sem] at zz));(try clear x_wp f_wp);(try clear z_wp);have z_wp:=zz;clear zz;(try clear l_wp);obtain ⟨x_wp,f_wp,l_wp⟩:=bO z_wp;have zz:=hQ hbw16 (b:=b6);(first|(simp [go_sem,z_b6,l_b6] at zz)|(simp [go_sem] at zz));(try clear x_b6 f_b6);(try clear z_b6);have z_b6:=zz;clear zz;(try clear l_b6);obtain ⟨x_b6,f_b6,l_b6⟩:=bO z_b6;have zz:=hQ hbw16 (b:=b7);(first|(simp [go_sem,z_b7,l_b7] at zz)|(simp [go_sem] at zz));(try clear x_b7 f_b7);(try clear z_b7);have z_b7:=zz;clear zz;(try clear l_b7);obtain ⟨x_b7,f_b7,l_b7⟩:=bO z_b7;have zz:=hQ hbw16 (b:=w6.heap.size);(first|(simp [go_sem,z_w6,l_w6] at zz)|(simp [go_sem] at zz));(try clear x_w6 f_w6);(try clear z_w6);have z_w6:=zz;clear zz;(try clear l_w6);obtain ⟨x_w6,f_w6,l_w6⟩:=bO z_w6;have zz:=hQ hbw16 (b:=b10);(first|(simp [go_sem,z_b10,l_b10] at zz)|(simp [go_sem] at zz));(try clear x_b10 f_b10);(try clear z_b10);have z_b10:=zz;clear zz;(try clear l_b10);obtain ⟨x_b10,f_b10,l_b10⟩:=bO z_b10;have zz:=hQ hbw16 (b:=b11);(first|(simp [go_sem,z_b11,l_b11] at zz)|(simp [go_sem] at zz));(try clear x_b11 f_b11);(try clear z_b11);have z_b11:=zz;clear zz;(try clear l_b11);obtain ⟨x_b11,f_b11,l_b11⟩:=bO z_b11
    clear hbw16
    go_upto_region 24 with fail
    refine wp_region_inv [[],[0],[],[2],[0,1,2,3],[0,1,2,3,4],[0,1,2,3,4,5],[0,1,2,3,4,5],[0,1,2,3,4,5],[],[],[0,1,2,3,4,5,6,9],[0,1,2,3,4,5,7,10],[0,1,2,3,4,5,8]] [97,98,99,100,101,96,102,103,104,16,17,18] (fun l s wx=>(Below w16.heap.size w16 wx)∧(l 0=true→s 97=.agg (cvals c (.slice a c.cells.length p) (.slice b c.words.length q)))∧(l 1=true→l 4=false→∃ g1 g2:Nat,s 98=.agg (cvals c (.slice (some ⟨g1,0,none⟩) c.cells.length c.cells.length) (.slice (some ⟨g2,0,none⟩) c.words.length c.words.length))∧Row wx g1 52 c.cells.length 3 (cellF c.cells)∧Row wx g2 2 c.words.length 1 (intF c.words))∧(l 2=true→s 99=.agg (hvals h))∧(l 3=true→s 100=.agg (hvals h))∧(l 4=true→s 101=.tuple #[.agg (cvals x.1 (s 1003) (s 1004)),.agg (hvals x.2.1),.bool x.2.2]∧OCells wx w16.heap.size (s 1003) x.1.cells∧OInts wx w16.heap.size (s 1004) x.1.words)∧(l 5=true→s 96=.tuple #[.agg (cvals x.1 (s 1003) (s 1004)),.agg (hvals x.2.1),.bool x.2.2])∧(l 6=true→s 102=.agg (cvals x.1 (s 1003) (s 1004)))∧(l 7=true→s 103=.agg (hvals x.2.1))∧(l 8=true→s 104=.bool x.2.2)∧(l 9=true→IsBox wx (s 16) w16.heap.size (cond (l 11) (cvals x.1 (s 1003) (s 1004)) (cvals Ch.zero (.slice none 0 0) (.slice none 0 0))) 33)∧(l 10=true→IsBox wx (s 17) w16.heap.size (cond (l 12) (hvals x.2.1) (hvals Ha.zero)) 36)∧(l 13=true→s 18=.bool x.2.2)) (by kernel_rfl) (by kernel_rfl) (by kernel_rfl) (fun s=>by (simp only [fill,fillA,List.setIfInBounds_toArray,List.set_cons_zero,List.set_cons_succ];rfl)) (fun s=>⟨(Below.refl _ _).drew,fun h=>absurd h Bool.false_ne_true,fun h=>absurd h Bool.false_ne_true,fun h=>absurd h Bool.false_ne_true,fun h=>absurd h Bool.false_ne_true,fun h=>absurd h Bool.false_ne_true,fun h=>absurd h Bool.false_ne_true,fun h=>absurd h Bool.false_ne_true,fun h=>absurd h Bool.false_ne_true,fun h=>absurd h Bool.false_ne_true,fun h=>absurd h Bool.false_ne_true,fun h=>absurd h Bool.false_ne_true,fun h=>absurd h Bool.false_ne_true⟩) ?_ ?_
    refine ⟨?_,?_,?_,?_,?_,?_,?_,?_,?_,?_,?_,?_,?_,?_,trivial⟩;rotate_left 14
    intro l s w17 hall hf
    have hB:=hf.1
    have U1:=(hf.2.2.2.2.2.1 (hall 4 rfl)).2.1
    have U2:=(hf.2.2.2.2.2.1 (hall 4 rfl)).2.2
    obtain ⟨b16,ea,lo_b16,z_b16⟩:=hf.2.2.2.2.2.2.2.2.2.2.1 (hall 9 rfl)
    obtain ⟨b17,eb,lo_b17,z_b17⟩:=hf.2.2.2.2.2.2.2.2.2.2.2.1 (hall 10 rfl)
    have ec:=hf.2.2.2.2.2.2.2.2.2.2.2.2 (hall 13 rfl)
    rw [hall 11 rfl] at z_b16
    rw [hall 12 rfl] at z_b17
    dsimp only [cond] at z_b16 z_b17
    simp only [ea,eb,ec]
    clear ea eb ec hf hall
    generalize s 1003=u1 at *
    generalize s 1004=u2 at *
    have hC17:Below w16.heap.size w16 w17:=hB
    have hB17:Below w.heap.size w w17:=bT hB16 hB
    clear hB
    have hs17:=hC17.size
    obtain ⟨x_b16,f_b16,l_b16⟩:=bO z_b16
    obtain ⟨x_b17,f_b17,l_b17⟩:=bO z_b17
    replace X1:=X1.below hC17
    replace X2:=X2.below hC17
    replace Y1:=Y1.below hC17
    replace Y2:=Y2.below hC17
    replace z_w:=hpS z_w hC17
    clear x_w f_w l_w
    obtain ⟨x_w,f_w,l_w⟩:=bO z_w
    replace z_wp:=hpS z_wp hC17
    clear x_wp f_wp l_wp
    obtain ⟨x_wp,f_wp,l_wp⟩:=bO z_wp
    replace z_b6:=hpS z_b6 hC17
    clear x_b6 f_b6 l_b6
    obtain ⟨x_b6,f_b6,l_b6⟩:=bO z_b6
    replace z_b7:=hpS z_b7 hC17
    clear x_b7 f_b7 l_b7
    obtain ⟨x_b7,f_b7,l_b7⟩:=bO z_b7
    replace z_w6:=hpS z_w6 hC17
    clear x_w6 f_w6 l_w6
    obtain ⟨x_w6,f_w6,l_w6⟩:=bO z_w6
    replace z_b10:=hpS z_b10 hC17
    clear x_b10 f_b10 l_b10
    obtain ⟨x_b10,f_b10,l_b10⟩:=bO z_b10
    replace z_b11:=hpS z_b11 hC17
    clear x_b11 f_b11 l_b11
    obtain ⟨x_b11,f_b11,l_b11⟩:=bO z_b11
    replace U1:=OCells.new U1
    replace U2:=OInts.new U2
    obtain ⟨ua,uc,rfl,_⟩:=U1.seg
    obtain ⟨ub,ud,rfl,_⟩:=U2.seg
    go_wp2_with fail
    refine (eqChan_any x.1 _ _ _ _ _ _ _ _ _ (U1.segAt (by exact zB)) (U2.segAt (by exact zB)) (X1.segAt (by exact zB)) (X2.segAt (by exact zB)) n3 n4).mono ?_
    rintro _ w18 ⟨rfl,hbw18⟩
    have hB18:Below w.heap.size w w18:=bT (by exact zB) hbw18
    have hC18:Below w17.heap.size w17 w18:=bT (by exact zB) hbw18
    replace X1:=X1.below hC18
    replace X2:=X2.below hC18
    replace Y1:=Y1.below hC18
    replace Y2:=Y2.below hC18
    replace U1:=U1.below hC18
    replace U2:=U2.below hC18
    have hsw18:=hbw18.size;(try (simp at hsw18));have zz:=hQ hbw18 (b:=w.heap.size);(first|(simp [go_sem,z_w,l_w] at zz)|(simp [go_sem] at zz));(try clear x_w f_w);(try clear z_w);have z_w:=zz;clear zz;(try clear l_w);obtain ⟨x_w,f_w,l_w⟩:=bO z_w;have zz:=hQ hbw18 (b:=w.heap.size+1);(first|(simp [go_sem,z_wp,l_wp] at zz)|(simp [go_sem] at zz));(try clear x_wp f_wp);(try clear z_wp);have z_wp:=zz;clear zz;(try clear l_wp);obtain ⟨x_wp,f_wp,l_wp⟩:=bO z_wp;have zz:=hQ hbw18 (b:=b6);(first|(simp [go_sem,z_b6,l_b6] at zz)|(simp [go_sem] at zz));(try clear x_b6 f_b6);(try clear z_b6);have z_b6:=zz;clear zz;(try clear l_b6);obtain ⟨x_b6,f_b6,l_b6⟩:=bO z_b6;have zz:=hQ hbw18 (b:=b7);(first|(simp [go_sem,z_b7,l_b7] at zz)|(simp [go_sem] at zz));(try clear x_b7 f_b7);(try clear z_b7);have z_b7:=zz;clear zz;(try clear l_b7);obtain ⟨x_b7,f_b7,l_b7⟩:=bO z_b7;have zz:=hQ hbw18 (b:=w6.heap.size);(first|(simp [go_sem,z_w6,l_w6] at zz)|(simp [go_sem] at zz));(try clear x_w6 f_w6);(try clear z_w6);have z_w6:=zz;clear zz;(try clear l_w6);obtain ⟨x_w6,f_w6,l_w6⟩:=bO z_w6;have zz:=hQ hbw18 (b:=b10);(first|(simp [go_sem,z_b10,l_b10] at zz)|(simp [go_sem] at zz));(try clear x_b10 f_b10);(try clear z_b10);have z_b10:=zz;clear zz;(try clear l_b10);obtain ⟨x_b10,f_b10,l_b10⟩:=bO z_b10;have zz:=hQ hbw18 (b:=b11);(first|(simp [go_sem,z_b11,l_b11] at zz)|(simp [go_sem] at zz));(try clear x_b11 f_b11);(try clear z_b11);have z_b11:=zz;clear zz;(try clear l_b11);obtain ⟨x_b11,f_b11,l_b11⟩:=bO z_b11;have zz:=hQ hbw18 (b:=b16);(first|(simp [go_sem,z_b16,l_b16] at zz)|(simp [go_sem] at zz));(try clear x_b16 f_b16);(try clear z_b16);have z_b16:=zz;clear zz;(try clear l_b16);obtain ⟨x_b16,f_b16,l_b16⟩:=bO z_b16;have zz:=hQ hbw18 (b:=b17);(first|(simp [go_sem,z_b17,l_b17] at zz)|(simp [go_sem] at zz));(try clear x_b17 f_b17);(try clear z_b17);have z_b17:=zz;clear zz;(try clear l_b17);obtain ⟨x_b17,f_b17,l_b17⟩:=bO z_b17
    clear hbw18
    go_wp2_with fail
    refine (eqHand_any x.2.1 _).mono ?_
    rintro _ w19 ⟨rfl,hbw19⟩
    have hB19:Below w.heap.size w w19:=bT (by exact zB) hbw19
    have hC19:Below w18.heap.size w18 w19:=bT (by exact zB) hbw19
    replace X1:=X1.below hC19
    replace X2:=X2.below hC19
    replace Y1:=Y1.below hC19
    replace Y2:=Y2.below hC19
    replace U1:=U1.below hC19
    replace U2:=U2.below hC19
    have hsw19:=hbw19.size;(try (simp at hsw19));have zz:=hQ hbw19 (b:=w.heap.size);(first|(simp [go_sem,z_w,l_w] at zz)|(simp [go_sem] at zz));(try clear x_w f_w);(try clear z_w);have z_w:=zz;clear zz;(try clear l_w);obtain ⟨x_w,f_w,l_w⟩:=bO z_w;have zz:=hQ hbw19 (b:=w.heap.size+1);(first|(simp [go_sem,z_wp,l_wp] at zz)|(simp [go_sem] at zz));(try clear x_wp f_wp);(try clear z_wp);have z_wp:=zz;clear zz;(try clear l_wp);obtain ⟨x_wp,f_wp,l_wp⟩:=bO z_wp;have zz:=hQ hbw19 (b:=b6);(first|(simp [go_sem,z_b6,l_b6] at zz)|(simp [go_sem] at zz));(try clear x_b6 f_b6);(try clear z_b6);have z_b6:=zz;clear zz;(try clear l_b6);obtain ⟨x_b6,f_b6,l_b6⟩:=bO z_b6;have zz:=hQ hbw19 (b:=b7);(first|(simp [go_sem,z_b7,l_b7] at zz)|(simp [go_sem] at zz));(try clear x_b7 f_b7);(try clear z_b7);have z_b7:=zz;clear zz;(try clear l_b7);obtain ⟨x_b7,f_b7,l_b7⟩:=bO z_b7;have zz:=hQ hbw19 (b:=w6.heap.size);(first|(simp [go_sem,z_w6,l_w6] at zz)|(simp [go_sem] at zz));(try clear x_w6 f_w6);(try clear z_w6);have z_w6:=zz;clear zz;(try clear l_w6);obtain ⟨x_w6,f_w6,l_w6⟩:=bO z_w6;have zz:=hQ hbw19 (b:=b10);(first|(simp [go_sem,z_b10,l_b10] at zz)|(simp [go_sem] at zz));(try clear x_b10 f_b10);(try clear z_b10);have z_b10:=zz;clear zz;(try clear l_b10);obtain ⟨x_b10,f_b10,l_b10⟩:=bO z_b10;have zz:=hQ hbw19 (b:=b11);(first|(simp [go_sem,z_b11,l_b11] at zz)|(simp [go_sem] at zz));(try clear x_b11 f_b11);(try clear z_b11);have z_b11:=zz;clear zz;(try clear l_b11);obtain ⟨x_b11,f_b11,l_b11⟩:=bO z_b11;have zz:=hQ hbw19 (b:=b16);(first|(simp [go_sem,z_b16,l_b16] at zz)|(simp [go_sem] at zz));(try clear x_b16 f_b16);(try clear z_b16);have z_b16:=zz;clear zz;(try clear l_b16);obtain ⟨x_b16,f_b16,l_b16⟩:=bO z_b16;have zz:=hQ hbw19 (b:=b17);(first|(simp [go_sem,z_b17,l_b17] at zz)|(simp [go_sem] at zz));(try clear x_b17 f_b17);(try clear z_b17);have z_b17:=zz;clear zz;(try clear l_b17);obtain ⟨x_b17,f_b17,l_b17⟩:=bO z_b17
    clear hbw19
    go_wp2_with fail
    refine (heldChan_any x.1.cells.length x.1.words.length _ _ _ _ _ _ _ _ 1 (1+3*x.1.cells.length) _ (Y1.below (by exact zB)) (Y2.below (by exact zB)) (by omega) (by omega) rfl n3 n4).mono ?_
    rintro _ w20 ⟨rfl,hbw20⟩
    have hB20:Below w.heap.size w w20:=bT (by exact zB) hbw20
    have hC20:Below w19.heap.size w19 w20:=bT (by exact zB) hbw20
    replace X1:=X1.below hC20
    replace X2:=X2.below hC20
    replace Y1:=Y1.below hC20
    replace Y2:=Y2.below hC20
    replace U1:=U1.below hC20
    replace U2:=U2.below hC20
    have hsw20:=hbw20.size;(try (simp at hsw20));have zz:=hQ hbw20 (b:=w.heap.size);(first|(simp [go_sem,z_w,l_w] at zz)|(simp [go_sem] at zz));(try clear x_w f_w);(try clear z_w);have z_w:=zz;clear zz;(try clear l_w);obtain ⟨x_w,f_w,l_w⟩:=bO z_w;have zz:=hQ hbw20 (b:=w.heap.size+1);(first|(simp [go_sem,z_wp,l_wp] at zz)|(simp [go_sem] at zz));(try clear x_wp f_wp);(try clear z_wp);have z_wp:=zz;clear zz;(try clear l_wp);obtain ⟨x_wp,f_wp,l_wp⟩:=bO z_wp;have zz:=hQ hbw20 (b:=b6);(first|(simp [go_sem,z_b6,l_b6] at zz)|(simp [go_sem] at zz));(try clear x_b6 f_b6);(try clear z_b6);have z_b6:=zz;clear zz;(try clear l_b6);obtain ⟨x_b6,f_b6,l_b6⟩:=bO z_b6;have zz:=hQ hbw20 (b:=b7);(first|(simp [go_sem,z_b7,l_b7] at zz)|(simp [go_sem] at zz));(try clear x_b7 f_b7);(try clear z_b7);have z_b7:=zz;clear zz;(try clear l_b7);obtain ⟨x_b7,f_b7,l_b7⟩:=bO z_b7;have zz:=hQ hbw20 (b:=w6.heap.size);(first|(simp [go_sem,z_w6,l_w6] at zz)|(simp [go_sem] at zz));(try clear x_w6 f_w6);(try clear z_w6);have z_w6:=zz;clear zz;(try clear l_w6);obtain ⟨x_w6,f_w6,l_w6⟩:=bO z_w6;have zz:=hQ hbw20 (b:=b10);(first|(simp [go_sem,z_b10,l_b10] at zz)|(simp [go_sem] at zz));(try clear x_b10 f_b10);(try clear z_b10);have z_b10:=zz;clear zz;(try clear l_b10);obtain ⟨x_b10,f_b10,l_b10⟩:=bO z_b10;have zz:=hQ hbw20 (b:=b11);(first|(simp [go_sem,z_b11,l_b11] at zz)|(simp [go_sem] at zz));(try clear x_b11 f_b11);(try clear z_b11);have z_b11:=zz;clear zz;(try clear l_b11);obtain ⟨x_b11,f_b11,l_b11⟩:=bO z_b11;have zz:=hQ hbw20 (b:=b16);(first|(simp [go_sem,z_b16,l_b16] at zz)|(simp [go_sem] at zz));(try clear x_b16 f_b16);(try clear z_b16);have z_b16:=zz;clear zz;(try clear l_b16);obtain ⟨x_b16,f_b16,l_b16⟩:=bO z_b16;have zz:=hQ hbw20 (b:=b17);(first|(simp [go_sem,z_b17,l_b17] at zz)|(simp [go_sem] at zz));(try clear x_b17 f_b17);(try clear z_b17);have z_b17:=zz;clear zz;(try clear l_b17);obtain ⟨x_b17,f_b17,l_b17⟩:=bO z_b17
    clear hbw20
    go_wp2
    go_ret
    exact ⟨rfl,hB20⟩
    · intro l s wx hl hd hn hf0 K hK
      have hf:=Lib.hid hf0
      clear hf0
      have hB:=hf.out.1
      have z:=hpS z_w hB
      go_simp
      refine hK.out (upd s 25 (.agg (cvals c (.slice a c.cells.length p) (.slice b c.words.length q)))) _ _ (by simp [upd_at] <;> rfl) ⟨hB,fun _=>rfl,fun h=>absurd h (by rw [show upd l 0 true 1=l 1 from rfl,hn 1 rfl];exact Bool.false_ne_true),fun h=>hf.out.2.2.2.1 h,fun h=>hf.out.2.2.2.2.1 h,fun h=>absurd h (by rw [show upd l 0 true 4=l 4 from rfl,hn 4 rfl];exact Bool.false_ne_true),fun h=>absurd h (by rw [show upd l 0 true 5=l 5 from rfl,hn 5 rfl];exact Bool.false_ne_true),fun h=>absurd h (by rw [show upd l 0 true 6=l 6 from rfl,hn 6 rfl];exact Bool.false_ne_true),fun h=>absurd h (by rw [show upd l 0 true 7=l 7 from rfl,hn 7 rfl];exact Bool.false_ne_true),fun h=>absurd h (by rw [show upd l 0 true 8=l 8 from rfl,hn 8 rfl];exact Bool.false_ne_true),fun h=>hf.out.2.2.2.2.2.2.2.2.2.2.1 h,fun h=>hf.out.2.2.2.2.2.2.2.2.2.2.2.1 h,fun h=>absurd h (by rw [show upd l 0 true 13=l 13 from rfl,hn 13 rfl];exact Bool.false_ne_true)⟩
    · intro l s wx hl hd hn hf0 K hK
      have hf:=Lib.hid hf0
      clear hf0
      have hB:=hf.out.1
      have e0:=(hf.out.2.1 (hd 0 rfl))
      go_simp
      go_at_call 7
      refine (toChan_any c a b p q _ ((H1.out.below (bT hB1 hB)).more (bT hB1 hB).size) ((H2.out.below (bT hB1 hB)).more (bT hB1 hB).size) n1 n2).mono ?_
      rintro _ wy ⟨⟨g1,g2,rfl,_,_,R1,R2⟩,hE⟩
      refine hK.out (upd s 26 (.agg (cvals c (.slice (some ⟨g1,0,none⟩) c.cells.length c.cells.length) (.slice (some ⟨g2,0,none⟩) c.words.length c.words.length)))) _ _ (by simp [upd_at,e0] <;> rfl) ⟨bT hB hE,fun h=>hf.out.2.1 h,fun _ _=>⟨g1,g2,rfl,R1,R2⟩,fun h=>hf.out.2.2.2.1 h,fun h=>hf.out.2.2.2.2.1 h,fun h=>absurd h (by rw [show upd l 1 true 4=l 4 from rfl,hn 4 rfl];exact Bool.false_ne_true),fun h=>absurd h (by rw [show upd l 1 true 5=l 5 from rfl,hn 5 rfl];exact Bool.false_ne_true),fun h=>absurd h (by rw [show upd l 1 true 6=l 6 from rfl,hn 6 rfl];exact Bool.false_ne_true),fun h=>absurd h (by rw [show upd l 1 true 7=l 7 from rfl,hn 7 rfl];exact Bool.false_ne_true),fun h=>absurd h (by rw [show upd l 1 true 8=l 8 from rfl,hn 8 rfl];exact Bool.false_ne_true),fun h=>IsBox.below (hf.out.2.2.2.2.2.2.2.2.2.2.1 h) hE,fun h=>IsBox.below (hf.out.2.2.2.2.2.2.2.2.2.2.2.1 h) hE,fun h=>absurd h (by rw [show upd l 1 true 13=l 13 from rfl,hn 13 rfl];exact Bool.false_ne_true)⟩
    · intro l s wx hl hd hn hf0 K hK
      have hf:=Lib.hid hf0
      clear hf0
      have hB:=hf.out.1
      have z:=hpS z_wp hB
      go_simp
      refine hK.out (upd s 27 (.agg (hvals h))) _ _ (by simp [upd_at] <;> rfl) ⟨hB,fun h=>hf.out.2.1 h,fun h=>hf.out.2.2.1 h,fun _=>rfl,fun h=>absurd h (by rw [show upd l 2 true 3=l 3 from rfl,hn 3 rfl];exact Bool.false_ne_true),fun h=>absurd h (by rw [show upd l 2 true 4=l 4 from rfl,hn 4 rfl];exact Bool.false_ne_true),fun h=>absurd h (by rw [show upd l 2 true 5=l 5 from rfl,hn 5 rfl];exact Bool.false_ne_true),fun h=>absurd h (by rw [show upd l 2 true 6=l 6 from rfl,hn 6 rfl];exact Bool.false_ne_true),fun h=>absurd h (by rw [show upd l 2 true 7=l 7 from rfl,hn 7 rfl];exact Bool.false_ne_true),fun h=>absurd h (by rw [show upd l 2 true 8=l 8 from rfl,hn 8 rfl];exact Bool.false_ne_true),fun h=>hf.out.2.2.2.2.2.2.2.2.2.2.1 h,fun h=>hf.out.2.2.2.2.2.2.2.2.2.2.2.1 h,fun h=>absurd h (by rw [show upd l 2 true 13=l 13 from rfl,hn 13 rfl];exact Bool.false_ne_true)⟩
    · intro l s wx hl hd hn hf0 K hK
      have hf:=Lib.hid hf0
      clear hf0
      have hB:=hf.out.1
      have e2:=(hf.out.2.2.2.1 (hd 2 rfl))
      go_simp
      go_at_call 8
      refine (toHand_any h _).mono ?_
      rintro _ wy ⟨rfl,hE⟩
      refine hK.out (upd s 28 (.agg (hvals h))) _ _ (by simp [upd_at,e2] <;> rfl) ⟨bT hB hE,fun h=>hf.out.2.1 h,fun h=>fun h4=>(let ⟨g1,g2,e,R1,R2⟩:=(hf.out.2.2.1 h) h4;⟨g1,g2,e,R1.belowS hE,R2.belowS hE⟩),fun h=>hf.out.2.2.2.1 h,fun _=>rfl,fun h=>absurd h (by rw [show upd l 3 true 4=l 4 from rfl,hn 4 rfl];exact Bool.false_ne_true),fun h=>absurd h (by rw [show upd l 3 true 5=l 5 from rfl,hn 5 rfl];exact Bool.false_ne_true),fun h=>absurd h (by rw [show upd l 3 true 6=l 6 from rfl,hn 6 rfl];exact Bool.false_ne_true),fun h=>absurd h (by rw [show upd l 3 true 7=l 7 from rfl,hn 7 rfl];exact Bool.false_ne_true),fun h=>absurd h (by rw [show upd l 3 true 8=l 8 from rfl,hn 8 rfl];exact Bool.false_ne_true),fun h=>IsBox.below (hf.out.2.2.2.2.2.2.2.2.2.2.1 h) hE,fun h=>IsBox.below (hf.out.2.2.2.2.2.2.2.2.2.2.2.1 h) hE,fun h=>absurd h (by rw [show upd l 3 true 13=l 13 from rfl,hn 13 rfl];exact Bool.false_ne_true)⟩
    · intro l s wx hl hd hn hf0 K hK
      have hf:=Lib.hid hf0
      clear hf0
      have hB:=hf.out.1
      have et:=hf.out.2.2.2.2.1 (hd 3 rfl)
      obtain ⟨g1,g2,ec,R1,R2⟩:=hf.out.2.2.1 (hd 1 rfl) hl
      go_simp
      go_at_call 6
      refine (HS.out _ _ _ _ _ R1.seg (fun e=>by cases e) R2.seg (fun e=>by cases e)).mono ?_
      rintro _ wy ⟨⟨v1,v2,rfl,X1,X2,_,_⟩,hE⟩
      refine hK.out (upd (upd (upd s 1003 (v1)) 1004 (v2)) 29 (.tuple #[.agg (cvals x.1 v1 v2),.agg (hvals x.2.1),.bool x.2.2])) _ _ (by simp [upd_at,ec,et] <;> rfl) ⟨bT hB hE,fun h=>hf.out.2.1 h,fun _ h4=>absurd h4 (by rw [show upd l 4 true 4=true from rfl];decide),fun h=>hf.out.2.2.2.1 h,fun h=>hf.out.2.2.2.2.1 h,fun _=>⟨rfl,own_lo X1 hB.size,own_lo X2 hB.size⟩,fun h=>absurd h (by rw [show upd l 4 true 5=l 5 from rfl,hn 5 rfl];exact Bool.false_ne_true),fun h=>absurd h (by rw [show upd l 4 true 6=l 6 from rfl,hn 6 rfl];exact Bool.false_ne_true),fun h=>absurd h (by rw [show upd l 4 true 7=l 7 from rfl,hn 7 rfl];exact Bool.false_ne_true),fun h=>absurd h (by rw [show upd l 4 true 8=l 8 from rfl,hn 8 rfl];exact Bool.false_ne_true),fun h=>by (have ee:l 11=false:=hn 11 rfl);(have F:=hf.out.2.2.2.2.2.2.2.2.2.2.1 h);rw [ee] at F;rw [show upd l 4 true 11=false from ee];exact F.below hE,fun h=>by (have ee:l 12=false:=hn 12 rfl);(have F:=hf.out.2.2.2.2.2.2.2.2.2.2.2.1 h);rw [ee] at F;rw [show upd l 4 true 12=false from ee];exact F.below hE,fun h=>absurd h (by rw [show upd l 4 true 13=l 13 from rfl,hn 13 rfl];exact Bool.false_ne_true)⟩
    · intro l s wx hl hd hn hf0 K hK
      have hf:=Lib.hid hf0
      clear hf0
      have hB:=hf.out.1
      have e4:=(hf.out.2.2.2.2.2.1 (hd 4 rfl)).1
      go_simp
      refine hK.out (upd s 24 (.tuple #[.agg (cvals x.1 (s 1003) (s 1004)),.agg (hvals x.2.1),.bool x.2.2])) _ _ (by simp [upd_at,e4] <;> rfl) ⟨hB,fun h=>hf.out.2.1 h,fun h=>hf.out.2.2.1 h,fun h=>hf.out.2.2.2.1 h,fun h=>hf.out.2.2.2.2.1 h,fun h=>hf.out.2.2.2.2.2.1 h,fun _=>rfl,fun h=>absurd h (by rw [show upd l 5 true 6=l 6 from rfl,hn 6 rfl];exact Bool.false_ne_true),fun h=>absurd h (by rw [show upd l 5 true 7=l 7 from rfl,hn 7 rfl];exact Bool.false_ne_true),fun h=>absurd h (by rw [show upd l 5 true 8=l 8 from rfl,hn 8 rfl];exact Bool.false_ne_true),fun h=>hf.out.2.2.2.2.2.2.2.2.2.2.1 h,fun h=>hf.out.2.2.2.2.2.2.2.2.2.2.2.1 h,fun h=>absurd h (by rw [show upd l 5 true 13=l 13 from rfl,hn 13 rfl];exact Bool.false_ne_true)⟩
    · intro l s wx hl hd hn hf0 K hK
      have hf:=Lib.hid hf0
      clear hf0
      have hB:=hf.out.1
      have e5:=(hf.out.2.2.2.2.2.2.1 (hd 5 rfl))
      go_simp
      refine hK.out (upd s 30 (.agg (cvals x.1 (s 1003) (s 1004)))) _ _ (by simp [upd_at,e5] <;> rfl) ⟨hB,fun h=>hf.out.2.1 h,fun h=>hf.out.2.2.1 h,fun h=>hf.out.2.2.2.1 h,fun h=>hf.out.2.2.2.2.1 h,fun h=>hf.out.2.2.2.2.2.1 h,fun h=>hf.out.2.2.2.2.2.2.1 h,fun _=>rfl,fun h=>hf.out.2.2.2.2.2.2.2.2.1 h,fun h=>hf.out.2.2.2.2.2.2.2.2.2.1 h,fun h=>hf.out.2.2.2.2.2.2.2.2.2.2.1 h,fun h=>hf.out.2.2.2.2.2.2.2.2.2.2.2.1 h,fun h=>hf.out.2.2.2.2.2.2.2.2.2.2.2.2 h⟩
    · intro l s wx hl hd hn hf0 K hK
      have hf:=Lib.hid hf0
      clear hf0
      have hB:=hf.out.1
      have e5:=(hf.out.2.2.2.2.2.2.1 (hd 5 rfl))
      go_simp
      refine hK.out (upd s 31 (.agg (hvals x.2.1))) _ _ (by simp [upd_at,e5] <;> rfl) ⟨hB,fun h=>hf.out.2.1 h,fun h=>hf.out.2.2.1 h,fun h=>hf.out.2.2.2.1 h,fun h=>hf.out.2.2.2.2.1 h,fun h=>hf.out.2.2.2.2.2.1 h,fun h=>hf.out.2.2.2.2.2.2.1 h,fun h=>hf.out.2.2.2.2.2.2.2.1 h,fun _=>rfl,fun h=>hf.out.2.2.2.2.2.2.2.2.2.1 h,fun h=>hf.out.2.2.2.2.2.2.2.2.2.2.1 h,fun h=>hf.out.2.2.2.2.2.2.2.2.2.2.2.1 h,fun h=>hf.out.2.2.2.2.2.2.2.2.2.2.2.2 h⟩
    · intro l s wx hl hd hn hf0 K hK
      have hf:=Lib.hid hf0
      clear hf0
      have hB:=hf.out.1
      have e5:=(hf.out.2.2.2.2.2.2.1 (hd 5 rfl))
      go_simp
      refine hK.out (upd s 32 (.bool x.2.2)) _ _ (by simp [upd_at,e5] <;> rfl) ⟨hB,fun h=>hf.out.2.1 h,fun h=>hf.out.2.2.1 h,fun h=>hf.out.2.2.2.1 h,fun h=>hf.out.2.2.2.2.1 h,fun h=>hf.out.2.2.2.2.2.1 h,fun h=>hf.out.2.2.2.2.2.2.1 h,fun h=>hf.out.2.2.2.2.2.2.2.1 h,fun h=>hf.out.2.2.2.2.2.2.2.2.1 h,fun _=>rfl,fun h=>hf.out.2.2.2.2.2.2.2.2.2.2.1 h,fun h=>hf.out.2.2.2.2.2.2.2.2.2.2.2.1 h,fun h=>absurd h (by rw [show upd l 8 true 13=l 13 from rfl,hn 13 rfl];exact Bool.false_ne_true)⟩
    · intro l s wx hl hd hn hf0 K hK
      have hf:=Lib.hid hf0
      clear hf0
      have hB:=hf.out.1
      go_simp
      refine hK.out (upd s 6 (.pointer (some ⟨wx.heap.size,0,none⟩))) _ _ (by simp [upd_at] <;> rfl) ⟨bT hB (belowAlloc _ _),fun h=>hf.out.2.1 h,fun h=>fun h4=>(let ⟨g1,g2,e,R1,R2⟩:=(hf.out.2.2.1 h) h4;⟨g1,g2,e,R1.belowS (belowAlloc _ _),R2.belowS (belowAlloc _ _)⟩),fun h=>hf.out.2.2.2.1 h,fun h=>hf.out.2.2.2.2.1 h,fun h=>(let ⟨e,X1,X2⟩:=(hf.out.2.2.2.2.2.1 h);⟨e,own_below X1 (belowAlloc _ _),own_below X2 (belowAlloc _ _)⟩),fun h=>hf.out.2.2.2.2.2.2.1 h,fun h=>hf.out.2.2.2.2.2.2.2.1 h,fun h=>hf.out.2.2.2.2.2.2.2.2.1 h,fun h=>hf.out.2.2.2.2.2.2.2.2.2.1 h,fun _=>by rw [show upd l 9 true 11=false from hn 11 rfl];exact IsBox.new hB.size,fun h=>IsBox.below (hf.out.2.2.2.2.2.2.2.2.2.2.2.1 h) (belowAlloc _ _),fun h=>hf.out.2.2.2.2.2.2.2.2.2.2.2.2 h⟩
    · intro l s wx hl hd hn hf0 K hK
      have hf:=Lib.hid hf0
      clear hf0
      have hB:=hf.out.1
      go_simp
      refine hK.out (upd s 7 (.pointer (some ⟨wx.heap.size,0,none⟩))) _ _ (by simp [upd_at] <;> rfl) ⟨bT hB (belowAlloc _ _),fun h=>hf.out.2.1 h,fun h=>fun h4=>(let ⟨g1,g2,e,R1,R2⟩:=(hf.out.2.2.1 h) h4;⟨g1,g2,e,R1.belowS (belowAlloc _ _),R2.belowS (belowAlloc _ _)⟩),fun h=>hf.out.2.2.2.1 h,fun h=>hf.out.2.2.2.2.1 h,fun h=>(let ⟨e,X1,X2⟩:=(hf.out.2.2.2.2.2.1 h);⟨e,own_below X1 (belowAlloc _ _),own_below X2 (belowAlloc _ _)⟩),fun h=>hf.out.2.2.2.2.2.2.1 h,fun h=>hf.out.2.2.2.2.2.2.2.1 h,fun h=>hf.out.2.2.2.2.2.2.2.2.1 h,fun h=>hf.out.2.2.2.2.2.2.2.2.2.1 h,fun h=>IsBox.below (hf.out.2.2.2.2.2.2.2.2.2.2.1 h) (belowAlloc _ _),fun _=>by rw [show upd l 10 true 12=false from hn 12 rfl];exact IsBox.new hB.size,fun h=>hf.out.2.2.2.2.2.2.2.2.2.2.2.2 h⟩
    · intro l s wx hl hd hn hf0 K hK
      have hf:=Lib.hid hf0
      clear hf0
      have hB:=hf.out.1
      have e4:=(hf.out.2.2.2.2.2.1 (hd 4 rfl))
      have e6:=(hf.out.2.2.2.2.2.2.2.1 (hd 6 rfl))
      have X1:=e4.2.1
      have X2:=e4.2.2
      clear e4
      obtain ⟨bb,eb,hlo,zb⟩:=hf.out.2.2.2.2.2.2.2.2.2.2.1 (hd 9 rfl)
      rw [hl] at zb
      dsimp only [cond] at zb
      obtain ⟨xa,xp,ea,_⟩:=X1.seg
      obtain ⟨xb,xq,eb2,_⟩:=X2.seg
      rw [ea,eb2] at e6
      go_simp
      have zn:hp (setBox wx bb (cvals x.1 (.slice xa x.1.cells.length xp) (.slice xb x.1.words.length xq))) bb=some (.cells (cvals x.1 (s 1003) (s 1004)) 33):=by rw [ea,eb2];exact hp_set zb
      refine hK.out (s) _ _ (by simp [upd_at,eb,e6,ea,eb2] <;> rfl) ⟨bBx hB hlo,fun h=>hf.out.2.1 h,fun _ h4=>absurd ((hd 4 rfl).symm.trans h4) (by decide),fun h=>hf.out.2.2.2.1 h,fun h=>hf.out.2.2.2.2.1 h,fun h=>⟨(hf.out.2.2.2.2.2.1 h).1,own_far (hf.out.2.2.2.2.2.1 h).2.1 zb (by decide),own_far (hf.out.2.2.2.2.2.1 h).2.2 zb (by decide)⟩,fun h=>hf.out.2.2.2.2.2.2.1 h,fun h=>hf.out.2.2.2.2.2.2.2.1 h,fun h=>hf.out.2.2.2.2.2.2.2.2.1 h,fun h=>hf.out.2.2.2.2.2.2.2.2.2.1 h,fun _=>⟨bb,eb,hlo,zn⟩,fun h=>IsBox.far (hf.out.2.2.2.2.2.2.2.2.2.2.2.1 h) zb (by decide),fun h=>hf.out.2.2.2.2.2.2.2.2.2.2.2.2 h⟩
    · intro l s wx hl hd hn hf0 K hK
      have hf:=Lib.hid hf0
      clear hf0
      have hB:=hf.out.1
      have e4:=(hf.out.2.2.2.2.2.1 (hd 4 rfl))
      have e7:=(hf.out.2.2.2.2.2.2.2.2.1 (hd 7 rfl))
      have X1:=e4.2.1
      have X2:=e4.2.2
      clear e4
      obtain ⟨bb,eb,hlo,zb⟩:=hf.out.2.2.2.2.2.2.2.2.2.2.2.1 (hd 10 rfl)
      rw [hl] at zb
      dsimp only [cond] at zb
      go_simp
      have zn:hp (setBox wx bb (hvals x.2.1)) bb=some (.cells (hvals x.2.1) 36):=by exact hp_set zb
      refine hK.out (s) _ _ (by simp [upd_at,eb,e7] <;> rfl) ⟨bBx hB hlo,fun h=>hf.out.2.1 h,fun _ h4=>absurd ((hd 4 rfl).symm.trans h4) (by decide),fun h=>hf.out.2.2.2.1 h,fun h=>hf.out.2.2.2.2.1 h,fun h=>⟨(hf.out.2.2.2.2.2.1 h).1,own_far (hf.out.2.2.2.2.2.1 h).2.1 zb (by decide),own_far (hf.out.2.2.2.2.2.1 h).2.2 zb (by decide)⟩,fun h=>hf.out.2.2.2.2.2.2.1 h,fun h=>hf.out.2.2.2.2.2.2.2.1 h,fun h=>hf.out.2.2.2.2.2.2.2.2.1 h,fun h=>hf.out.2.2.2.2.2.2.2.2.2.1 h,fun h=>IsBox.far (hf.out.2.2.2.2.2.2.2.2.2.2.1 h) zb (by decide),fun _=>⟨bb,eb,hlo,zn⟩,fun h=>hf.out.2.2.2.2.2.2.2.2.2.2.2.2 h⟩
    · intro l s wx hl hd hn hf0 K hK
      have hf:=Lib.hid hf0
      clear hf0
      have hB:=hf.out.1
      have e8:=(hf.out.2.2.2.2.2.2.2.2.2.1 (hd 8 rfl))
      go_simp
      refine hK.out (upd s 8 (.bool x.2.2)) _ _ (by simp [upd_at,e8] <;> rfl) ⟨hB,fun h=>hf.out.2.1 h,fun h=>hf.out.2.2.1 h,fun h=>hf.out.2.2.2.1 h,fun h=>hf.out.2.2.2.2.1 h,fun h=>hf.out.2.2.2.2.2.1 h,fun h=>hf.out.2.2.2.2.2.2.1 h,fun h=>hf.out.2.2.2.2.2.2.2.1 h,fun h=>hf.out.2.2.2.2.2.2.2.2.1 h,fun h=>hf.out.2.2.2.2.2.2.2.2.2.1 h,fun h=>hf.out.2.2.2.2.2.2.2.2.2.2.1 h,fun h=>hf.out.2.2.2.2.2.2.2.2.2.2.2.1 h,fun _=>rfl⟩
    · intro l s wx hl hd hn hf0 K hK
      have hf:=Lib.hid hf0
      clear hf0
      have hB:=hf.out.1
      have z:=hpS z_w6 hB
      go_simp
      refine hK.out (upd s 36 (.agg (cvals c (.slice (some ⟨g3,0,none⟩) c.cells.length c.cells.length) (.slice (some ⟨g4,0,none⟩) c.words.length c.words.length)))) _ _ (by simp [upd_at] <;> rfl) ⟨hB,fun _=>rfl,fun h=>hf.out.2.2.1 h,fun h=>hf.out.2.2.2.1 h,fun h=>absurd h (by rw [show upd l 0 true 3=l 3 from rfl,hn 3 rfl];exact Bool.false_ne_true),fun h=>absurd h (by rw [show upd l 0 true 4=l 4 from rfl,hn 4 rfl];exact Bool.false_ne_true),fun h=>absurd h (by rw [show upd l 0 true 5=l 5 from rfl,hn 5 rfl];exact Bool.false_ne_true),fun h=>absurd h (by rw [show upd l 0 true 6=l 6 from rfl,hn 6 rfl];exact Bool.false_ne_true),fun h=>absurd h (by rw [show upd l 0 true 7=l 7 from rfl,hn 7 rfl];exact Bool.false_ne_true),fun h=>hf.out.2.2.2.2.2.2.2.2.2.1 h,fun h=>hf.out.2.2.2.2.2.2.2.2.2.2.1 h,fun h=>absurd h (by rw [show upd l 0 true 12=l 12 from rfl,hn 12 rfl];exact Bool.false_ne_true)⟩
    · intro l s wx hl hd hn hf0 K hK
      have hf:=Lib.hid hf0
      clear hf0
      have hB:=hf.out.1
      have z:=hpS z_wp hB
      go_simp
      refine hK.out (upd s 37 (.agg (hvals h))) _ _ (by simp [upd_at] <;> rfl) ⟨hB,fun h=>hf.out.2.1 h,fun _=>rfl,fun h=>absurd h (by rw [show upd l 1 true 2=l 2 from rfl,hn 2 rfl];exact Bool.false_ne_true),fun h=>absurd h (by rw [show upd l 1 true 3=l 3 from rfl,hn 3 rfl];exact Bool.false_ne_true),fun h=>absurd h (by rw [show upd l 1 true 4=l 4 from rfl,hn 4 rfl];exact Bool.false_ne_true),fun h=>absurd h (by rw [show upd l 1 true 5=l 5 from rfl,hn 5 rfl];exact Bool.false_ne_true),fun h=>absurd h (by rw [show upd l 1 true 6=l 6 from rfl,hn 6 rfl];exact Bool.false_ne_true),fun h=>absurd h (by rw [show upd l 1 true 7=l 7 from rfl,hn 7 rfl];exact Bool.false_ne_true),fun h=>hf.out.2.2.2.2.2.2.2.2.2.1 h,fun h=>hf.out.2.2.2.2.2.2.2.2.2.2.1 h,fun h=>absurd h (by rw [show upd l 1 true 12=l 12 from rfl,hn 12 rfl];exact Bool.false_ne_true)⟩
    · intro l s wx hl hd hn hf0 K hK
      have hf:=Lib.hid hf0
      clear hf0
      have hB:=hf.out.1
      have e1:=(hf.out.2.2.1 (hd 1 rfl))
      go_simp
      go_at_call 8
      refine (toHand_any h _).mono ?_
      rintro _ wy ⟨rfl,hE⟩
      refine hK.out (upd s 38 (.agg (hvals h))) _ _ (by simp [upd_at,e1] <;> rfl) ⟨bT hB hE,fun h=>hf.out.2.1 h,fun h=>hf.out.2.2.1 h,fun _=>rfl,fun h=>absurd h (by rw [show upd l 2 true 3=l 3 from rfl,hn 3 rfl];exact Bool.false_ne_true),fun h=>absurd h (by rw [show upd l 2 true 4=l 4 from rfl,hn 4 rfl];exact Bool.false_ne_true),fun h=>absurd h (by rw [show upd l 2 true 5=l 5 from rfl,hn 5 rfl];exact Bool.false_ne_true),fun h=>absurd h (by rw [show upd l 2 true 6=l 6 from rfl,hn 6 rfl];exact Bool.false_ne_true),fun h=>absurd h (by rw [show upd l 2 true 7=l 7 from rfl,hn 7 rfl];exact Bool.false_ne_true),fun h=>IsBox.below (hf.out.2.2.2.2.2.2.2.2.2.1 h) hE,fun h=>IsBox.below (hf.out.2.2.2.2.2.2.2.2.2.2.1 h) hE,fun h=>absurd h (by rw [show upd l 2 true 12=l 12 from rfl,hn 12 rfl];exact Bool.false_ne_true)⟩
    · intro l s wx hl hd hn hf0 K hK
      have hf:=Lib.hid hf0
      clear hf0
      have hB:=hf.out.1
      have et:=hf.out.2.2.2.1 (hd 2 rfl)
      have ec:=hf.out.2.1 (hd 0 rfl)
      go_simp
      go_at_call 9
      refine (HI.out _ _ _ _ _ (C3.segAt hB) (fun e=>by cases e) (C4.segAt hB) (fun e=>by cases e)).mono ?_
      rintro _ wy ⟨⟨v1,v2,rfl,X1,X2,_,_⟩,hE⟩
      refine hK.out (upd (upd (upd s 1003 (v1)) 1004 (v2)) 39 (.tuple #[.agg (cvals x.1 v1 v2),.agg (hvals x.2.1),.bool x.2.2])) _ _ (by simp [upd_at,ec,et] <;> rfl) ⟨bT hB hE,fun h=>hf.out.2.1 h,fun h=>hf.out.2.2.1 h,fun h=>hf.out.2.2.2.1 h,fun _=>⟨rfl,own_lo X1 hB.size,own_lo X2 hB.size⟩,fun h=>absurd h (by rw [show upd l 3 true 4=l 4 from rfl,hn 4 rfl];exact Bool.false_ne_true),fun h=>absurd h (by rw [show upd l 3 true 5=l 5 from rfl,hn 5 rfl];exact Bool.false_ne_true),fun h=>absurd h (by rw [show upd l 3 true 6=l 6 from rfl,hn 6 rfl];exact Bool.false_ne_true),fun h=>absurd h (by rw [show upd l 3 true 7=l 7 from rfl,hn 7 rfl];exact Bool.false_ne_true),fun h=>by (have ee:l 10=false:=hn 10 rfl);(have F:=hf.out.2.2.2.2.2.2.2.2.2.1 h);rw [ee] at F;rw [show upd l 3 true 10=false from ee];exact F.below hE,fun h=>by (have ee:l 11=false:=hn 11 rfl);(have F:=hf.out.2.2.2.2.2.2.2.2.2.2.1 h);rw [ee] at F;rw [show upd l 3 true 11=false from ee];exact F.below hE,fun h=>absurd h (by rw [show upd l 3 true 12=l 12 from rfl,hn 12 rfl];exact Bool.false_ne_true)⟩
    · intro l s wx hl hd hn hf0 K hK
      have hf:=Lib.hid hf0
      clear hf0
      have hB:=hf.out.1
      have e3:=(hf.out.2.2.2.2.1 (hd 3 rfl)).1
      go_simp
      refine hK.out (upd s 35 (.tuple #[.agg (cvals x.1 (s 1003) (s 1004)),.agg (hvals x.2.1),.bool x.2.2])) _ _ (by simp [upd_at,e3] <;> rfl) ⟨hB,fun h=>hf.out.2.1 h,fun h=>hf.out.2.2.1 h,fun h=>hf.out.2.2.2.1 h,fun h=>hf.out.2.2.2.2.1 h,fun _=>rfl,fun h=>absurd h (by rw [show upd l 4 true 5=l 5 from rfl,hn 5 rfl];exact Bool.false_ne_true),fun h=>absurd h (by rw [show upd l 4 true 6=l 6 from rfl,hn 6 rfl];exact Bool.false_ne_true),fun h=>absurd h (by rw [show upd l 4 true 7=l 7 from rfl,hn 7 rfl];exact Bool.false_ne_true),fun h=>hf.out.2.2.2.2.2.2.2.2.2.1 h,fun h=>hf.out.2.2.2.2.2.2.2.2.2.2.1 h,fun h=>absurd h (by rw [show upd l 4 true 12=l 12 from rfl,hn 12 rfl];exact Bool.false_ne_true)⟩
    · intro l s wx hl hd hn hf0 K hK
      have hf:=Lib.hid hf0
      clear hf0
      have hB:=hf.out.1
      have e4:=(hf.out.2.2.2.2.2.1 (hd 4 rfl))
      go_simp
      refine hK.out (upd s 40 (.agg (cvals x.1 (s 1003) (s 1004)))) _ _ (by simp [upd_at,e4] <;> rfl) ⟨hB,fun h=>hf.out.2.1 h,fun h=>hf.out.2.2.1 h,fun h=>hf.out.2.2.2.1 h,fun h=>hf.out.2.2.2.2.1 h,fun h=>hf.out.2.2.2.2.2.1 h,fun _=>rfl,fun h=>hf.out.2.2.2.2.2.2.2.1 h,fun h=>hf.out.2.2.2.2.2.2.2.2.1 h,fun h=>hf.out.2.2.2.2.2.2.2.2.2.1 h,fun h=>hf.out.2.2.2.2.2.2.2.2.2.2.1 h,fun h=>hf.out.2.2.2.2.2.2.2.2.2.2.2 h⟩
    · intro l s wx hl hd hn hf0 K hK
      have hf:=Lib.hid hf0
      clear hf0
      have hB:=hf.out.1
      have e4:=(hf.out.2.2.2.2.2.1 (hd 4 rfl))
      go_simp
      refine hK.out (upd s 41 (.agg (hvals x.2.1))) _ _ (by simp [upd_at,e4] <;> rfl) ⟨hB,fun h=>hf.out.2.1 h,fun h=>hf.out.2.2.1 h,fun h=>hf.out.2.2.2.1 h,fun h=>hf.out.2.2.2.2.1 h,fun h=>hf.out.2.2.2.2.2.1 h,fun h=>hf.out.2.2.2.2.2.2.1 h,fun _=>rfl,fun h=>hf.out.2.2.2.2.2.2.2.2.1 h,fun h=>hf.out.2.2.2.2.2.2.2.2.2.1 h,fun h=>hf.out.2.2.2.2.2.2.2.2.2.2.1 h,fun h=>hf.out.2.2.2.2.2.2.2.2.2.2.2 h⟩
    · intro l s wx hl hd hn hf0 K hK
      have hf:=Lib.hid hf0
      clear hf0
      have hB:=hf.out.1
      have e4:=(hf.out.2.2.2.2.2.1 (hd 4 rfl))
      go_simp
      refine hK.out (upd s 42 (.bool x.2.2)) _ _ (by simp [upd_at,e4] <;> rfl) ⟨hB,fun h=>hf.out.2.1 h,fun h=>hf.out.2.2.1 h,fun h=>hf.out.2.2.2.1 h,fun h=>hf.out.2.2.2.2.1 h,fun h=>hf.out.2.2.2.2.2.1 h,fun h=>hf.out.2.2.2.2.2.2.1 h,fun h=>hf.out.2.2.2.2.2.2.2.1 h,fun _=>rfl,fun h=>hf.out.2.2.2.2.2.2.2.2.2.1 h,fun h=>hf.out.2.2.2.2.2.2.2.2.2.2.1 h,fun h=>absurd h (by rw [show upd l 7 true 12=l 12 from rfl,hn 12 rfl];exact Bool.false_ne_true)⟩
    · intro l s wx hl hd hn hf0 K hK
      have hf:=Lib.hid hf0
      clear hf0
      have hB:=hf.out.1
      go_simp
      refine hK.out (upd s 10 (.pointer (some ⟨wx.heap.size,0,none⟩))) _ _ (by simp [upd_at] <;> rfl) ⟨bT hB (belowAlloc _ _),fun h=>hf.out.2.1 h,fun h=>hf.out.2.2.1 h,fun h=>hf.out.2.2.2.1 h,fun h=>(let ⟨e,X1,X2⟩:=(hf.out.2.2.2.2.1 h);⟨e,own_below X1 (belowAlloc _ _),own_below X2 (belowAlloc _ _)⟩),fun h=>hf.out.2.2.2.2.2.1 h,fun h=>hf.out.2.2.2.2.2.2.1 h,fun h=>hf.out.2.2.2.2.2.2.2.1 h,fun h=>hf.out.2.2.2.2.2.2.2.2.1 h,fun _=>by rw [show upd l 8 true 10=false from hn 10 rfl];exact IsBox.new hB.size,fun h=>IsBox.below (hf.out.2.2.2.2.2.2.2.2.2.2.1 h) (belowAlloc _ _),fun h=>hf.out.2.2.2.2.2.2.2.2.2.2.2 h⟩
    · intro l s wx hl hd hn hf0 K hK
      have hf:=Lib.hid hf0
      clear hf0
      have hB:=hf.out.1
      go_simp
      refine hK.out (upd s 11 (.pointer (some ⟨wx.heap.size,0,none⟩))) _ _ (by simp [upd_at] <;> rfl) ⟨bT hB (belowAlloc _ _),fun h=>hf.out.2.1 h,fun h=>hf.out.2.2.1 h,fun h=>hf.out.2.2.2.1 h,fun h=>(let ⟨e,X1,X2⟩:=(hf.out.2.2.2.2.1 h);⟨e,own_below X1 (belowAlloc _ _),own_below X2 (belowAlloc _ _)⟩),fun h=>hf.out.2.2.2.2.2.1 h,fun h=>hf.out.2.2.2.2.2.2.1 h,fun h=>hf.out.2.2.2.2.2.2.2.1 h,fun h=>hf.out.2.2.2.2.2.2.2.2.1 h,fun h=>IsBox.below (hf.out.2.2.2.2.2.2.2.2.2.1 h) (belowAlloc _ _),fun _=>by rw [show upd l 9 true 11=false from hn 11 rfl];exact IsBox.new hB.size,fun h=>hf.out.2.2.2.2.2.2.2.2.2.2.2 h⟩
    · intro l s wx hl hd hn hf0 K hK
      have hf:=Lib.hid hf0
      clear hf0
      have hB:=hf.out.1
      have e3:=(hf.out.2.2.2.2.1 (hd 3 rfl))
      have e5:=(hf.out.2.2.2.2.2.2.1 (hd 5 rfl))
      have X1:=e3.2.1
      have X2:=e3.2.2
      clear e3
      obtain ⟨bb,eb,hlo,zb⟩:=hf.out.2.2.2.2.2.2.2.2.2.1 (hd 8 rfl)
      rw [hl] at zb
      dsimp only [cond] at zb
      obtain ⟨xa,xp,ea,_⟩:=X1.seg
      obtain ⟨xb,xq,eb2,_⟩:=X2.seg
      rw [ea,eb2] at e5
      go_simp
      have zn:hp (setBox wx bb (cvals x.1 (.slice xa x.1.cells.length xp) (.slice xb x.1.words.length xq))) bb=some (.cells (cvals x.1 (s 1003) (s 1004)) 33):=by rw [ea,eb2];exact hp_set zb
      refine hK.out (s) _ _ (by simp [upd_at,eb,e5,ea,eb2] <;> rfl) ⟨bBx hB hlo,fun h=>hf.out.2.1 h,fun h=>hf.out.2.2.1 h,fun h=>hf.out.2.2.2.1 h,fun h=>⟨(hf.out.2.2.2.2.1 h).1,own_far (hf.out.2.2.2.2.1 h).2.1 zb (by decide),own_far (hf.out.2.2.2.2.1 h).2.2 zb (by decide)⟩,fun h=>hf.out.2.2.2.2.2.1 h,fun h=>hf.out.2.2.2.2.2.2.1 h,fun h=>hf.out.2.2.2.2.2.2.2.1 h,fun h=>hf.out.2.2.2.2.2.2.2.2.1 h,fun _=>⟨bb,eb,hlo,zn⟩,fun h=>IsBox.far (hf.out.2.2.2.2.2.2.2.2.2.2.1 h) zb (by decide),fun h=>hf.out.2.2.2.2.2.2.2.2.2.2.2 h⟩
    · intro l s wx hl hd hn hf0 K hK
      have hf:=Lib.hid hf0
      clear hf0
      have hB:=hf.out.1
      have e3:=(hf.out.2.2.2.2.1 (hd 3 rfl))
      have e6:=(hf.out.2.2.2.2.2.2.2.1 (hd 6 rfl))
      have X1:=e3.2.1
      have X2:=e3.2.2
      clear e3
      obtain ⟨bb,eb,hlo,zb⟩:=hf.out.2.2.2.2.2.2.2.2.2.2.1 (hd 9 rfl)
      rw [hl] at zb
      dsimp only [cond] at zb
      go_simp
      have zn:hp (setBox wx bb (hvals x.2.1)) bb=some (.cells (hvals x.2.1) 36):=by exact hp_set zb
      refine hK.out (s) _ _ (by simp [upd_at,eb,e6] <;> rfl) ⟨bBx hB hlo,fun h=>hf.out.2.1 h,fun h=>hf.out.2.2.1 h,fun h=>hf.out.2.2.2.1 h,fun h=>⟨(hf.out.2.2.2.2.1 h).1,own_far (hf.out.2.2.2.2.1 h).2.1 zb (by decide),own_far (hf.out.2.2.2.2.1 h).2.2 zb (by decide)⟩,fun h=>hf.out.2.2.2.2.2.1 h,fun h=>hf.out.2.2.2.2.2.2.1 h,fun h=>hf.out.2.2.2.2.2.2.2.1 h,fun h=>hf.out.2.2.2.2.2.2.2.2.1 h,fun h=>IsBox.far (hf.out.2.2.2.2.2.2.2.2.2.1 h) zb (by decide),fun _=>⟨bb,eb,hlo,zn⟩,fun h=>hf.out.2.2.2.2.2.2.2.2.2.2.2 h⟩
    · intro l s wx hl hd hn hf0 K hK
      have hf:=Lib.hid hf0
      clear hf0
      have hB:=hf.out.1
      have e7:=(hf.out.2.2.2.2.2.2.2.2.1 (hd 7 rfl))
      go_simp
      refine hK.out (upd s 12 (.bool x.2.2)) _ _ (by simp [upd_at,e7] <;> rfl) ⟨hB,fun h=>hf.out.2.1 h,fun h=>hf.out.2.2.1 h,fun h=>hf.out.2.2.2.1 h,fun h=>hf.out.2.2.2.2.1 h,fun h=>hf.out.2.2.2.2.2.1 h,fun h=>hf.out.2.2.2.2.2.2.1 h,fun h=>hf.out.2.2.2.2.2.2.2.1 h,fun h=>hf.out.2.2.2.2.2.2.2.2.1 h,fun h=>hf.out.2.2.2.2.2.2.2.2.2.1 h,fun h=>hf.out.2.2.2.2.2.2.2.2.2.2.1 h,fun _=>rfl⟩
    · intro l s wx hl hd hn hf0 K hK
      have hf:=Lib.hid hf0
      clear hf0
      have hB:=hf.out.1
      have z:=hpS z_w6 hB
      go_simp
      refine hK.out (upd s 58 (.agg (cvals c (.slice (some ⟨g3,0,none⟩) c.cells.length c.cells.length) (.slice (some ⟨g4,0,none⟩) c.words.length c.words.length)))) _ _ (by simp [upd_at] <;> rfl) ⟨hB,fun _=>rfl,fun h=>hf.out.2.2.1 h,fun h=>hf.out.2.2.2.1 h,fun h=>absurd h (by rw [show upd l 0 true 3=l 3 from rfl,hn 3 rfl];exact Bool.false_ne_true),fun h=>absurd h (by rw [show upd l 0 true 4=l 4 from rfl,hn 4 rfl];exact Bool.false_ne_true)⟩
    · intro l s wx hl hd hn hf0 K hK
      have hf:=Lib.hid hf0
      clear hf0
      have hB:=hf.out.1
      have z:=hpS z_w hB
      go_simp
      refine hK.out (upd s 59 (.agg (cvals c (.slice a c.cells.length p) (.slice b c.words.length q)))) _ _ (by simp [upd_at] <;> rfl) ⟨hB,fun h=>hf.out.2.1 h,fun _=>rfl,fun h=>absurd h (by rw [show upd l 1 true 2=l 2 from rfl,hn 2 rfl];exact Bool.false_ne_true),fun h=>absurd h (by rw [show upd l 1 true 3=l 3 from rfl,hn 3 rfl];exact Bool.false_ne_true),fun h=>absurd h (by rw [show upd l 1 true 4=l 4 from rfl,hn 4 rfl];exact Bool.false_ne_true)⟩
    · intro l s wx hl hd hn hf0 K hK
      have hf:=Lib.hid hf0
      clear hf0
      have hB:=hf.out.1
      have e1:=(hf.out.2.2.1 (hd 1 rfl))
      go_simp
      go_at_call 7
      refine (toChan_any c a b p q _ ((H1.out.below (bT hB10 hB)).more (bT hB10 hB).size) ((H2.out.below (bT hB10 hB)).more (bT hB10 hB).size) n1 n2).mono ?_
      rintro _ wy ⟨⟨g1,g2,rfl,_,_,R1,R2⟩,hE⟩
      refine hK.out (upd s 60 (.agg (cvals c (.slice (some ⟨g1,0,none⟩) c.cells.length c.cells.length) (.slice (some ⟨g2,0,none⟩) c.words.length c.words.length)))) _ _ (by simp [upd_at,e1] <;> rfl) ⟨bT hB hE,fun h=>hf.out.2.1 h,fun h=>hf.out.2.2.1 h,fun _=>⟨g1,g2,rfl,R1,R2⟩,fun h=>absurd h (by rw [show upd l 2 true 3=l 3 from rfl,hn 3 rfl];exact Bool.false_ne_true),fun h=>absurd h (by rw [show upd l 2 true 4=l 4 from rfl,hn 4 rfl];exact Bool.false_ne_true)⟩
    · intro l s wx hl hd hn hf0 K hK
      have hf:=Lib.hid hf0
      clear hf0
      have hB:=hf.out.1
      have e0:=(hf.out.2.1 (hd 0 rfl))
      obtain ⟨g1,g2,e2,R1,R2⟩:=hf.out.2.2.2.1 (hd 2 rfl)
      go_simp
      go_at_call 10
      refine (eqChan_any c _ _ _ _ _ _ _ _ _ (C3.segAt hB) (C4.segAt hB) R1.seg R2.seg n1 n2).mono ?_
      rintro _ wy ⟨rfl,hE⟩
      refine hK.out (upd s 61 (.bool true)) _ _ (by simp [upd_at,e0,e2] <;> rfl) ⟨bT hB hE,fun h=>hf.out.2.1 h,fun h=>hf.out.2.2.1 h,fun h=>(let ⟨g1,g2,e,R1,R2⟩:=(hf.out.2.2.2.1 h);⟨g1,g2,e,R1.belowS hE,R2.belowS hE⟩),fun _=>rfl,fun h=>absurd h (by rw [show upd l 3 true 4=l 4 from rfl,hn 4 rfl];exact Bool.false_ne_true)⟩
    · intro l s wx hl hd hn hf0 K hK
      have hf:=Lib.hid hf0
      clear hf0
      have hB:=hf.out.1
      have e3:=(hf.out.2.2.2.2.1 (hd 3 rfl))
      go_simp
      refine hK.out (upd s 62 (.bool false)) _ _ (by simp [upd_at,e3] <;> rfl) ⟨hB,fun h=>hf.out.2.1 h,fun h=>hf.out.2.2.1 h,fun h=>hf.out.2.2.2.1 h,fun h=>hf.out.2.2.2.2.1 h,fun _=>rfl⟩
    · intro l s wx hl hd hn hf0 K hK
      have hf:=Lib.hid hf0
      clear hf0
      have hB:=hf.out.1
      have z:=hpS z_w hB
      go_simp
      refine hK.out (upd s 97 (.agg (cvals c (.slice a c.cells.length p) (.slice b c.words.length q)))) _ _ (by simp [upd_at] <;> rfl) ⟨hB,fun _=>rfl,fun h=>absurd h (by rw [show upd l 0 true 1=l 1 from rfl,hn 1 rfl];exact Bool.false_ne_true),fun h=>hf.out.2.2.2.1 h,fun h=>hf.out.2.2.2.2.1 h,fun h=>absurd h (by rw [show upd l 0 true 4=l 4 from rfl,hn 4 rfl];exact Bool.false_ne_true),fun h=>absurd h (by rw [show upd l 0 true 5=l 5 from rfl,hn 5 rfl];exact Bool.false_ne_true),fun h=>absurd h (by rw [show upd l 0 true 6=l 6 from rfl,hn 6 rfl];exact Bool.false_ne_true),fun h=>absurd h (by rw [show upd l 0 true 7=l 7 from rfl,hn 7 rfl];exact Bool.false_ne_true),fun h=>absurd h (by rw [show upd l 0 true 8=l 8 from rfl,hn 8 rfl];exact Bool.false_ne_true),fun h=>hf.out.2.2.2.2.2.2.2.2.2.2.1 h,fun h=>hf.out.2.2.2.2.2.2.2.2.2.2.2.1 h,fun h=>absurd h (by rw [show upd l 0 true 13=l 13 from rfl,hn 13 rfl];exact Bool.false_ne_true)⟩
    · intro l s wx hl hd hn hf0 K hK
      have hf:=Lib.hid hf0
      clear hf0
      have hB:=hf.out.1
      have e0:=(hf.out.2.1 (hd 0 rfl))
      go_simp
      go_at_call 7
      refine (toChan_any c a b p q _ ((H1.out.below (bT hB16 hB)).more (bT hB16 hB).size) ((H2.out.below (bT hB16 hB)).more (bT hB16 hB).size) n1 n2).mono ?_
      rintro _ wy ⟨⟨g1,g2,rfl,_,_,R1,R2⟩,hE⟩
      refine hK.out (upd s 98 (.agg (cvals c (.slice (some ⟨g1,0,none⟩) c.cells.length c.cells.length) (.slice (some ⟨g2,0,none⟩) c.words.length c.words.length)))) _ _ (by simp [upd_at,e0] <;> rfl) ⟨bT hB hE,fun h=>hf.out.2.1 h,fun _ _=>⟨g1,g2,rfl,R1,R2⟩,fun h=>hf.out.2.2.2.1 h,fun h=>hf.out.2.2.2.2.1 h,fun h=>absurd h (by rw [show upd l 1 true 4=l 4 from rfl,hn 4 rfl];exact Bool.false_ne_true),fun h=>absurd h (by rw [show upd l 1 true 5=l 5 from rfl,hn 5 rfl];exact Bool.false_ne_true),fun h=>absurd h (by rw [show upd l 1 true 6=l 6 from rfl,hn 6 rfl];exact Bool.false_ne_true),fun h=>absurd h (by rw [show upd l 1 true 7=l 7 from rfl,hn 7 rfl];exact Bool.false_ne_true),fun h=>absurd h (by rw [show upd l 1 true 8=l 8 from rfl,hn 8 rfl];exact Bool.false_ne_true),fun h=>IsBox.below (hf.out.2.2.2.2.2.2.2.2.2.2.1 h) hE,fun h=>IsBox.below (hf.out.2.2.2.2.2.2.2.2.2.2.2.1 h) hE,fun h=>absurd h (by rw [show upd l 1 true 13=l 13 from rfl,hn 13 rfl];exact Bool.false_ne_true)⟩
    · intro l s wx hl hd hn hf0 K hK
      have hf:=Lib.hid hf0
      clear hf0
      have hB:=hf.out.1
      have z:=hpS z_wp hB
      go_simp
      refine hK.out (upd s 99 (.agg (hvals h))) _ _ (by simp [upd_at] <;> rfl) ⟨hB,fun h=>hf.out.2.1 h,fun h=>hf.out.2.2.1 h,fun _=>rfl,fun h=>absurd h (by rw [show upd l 2 true 3=l 3 from rfl,hn 3 rfl];exact Bool.false_ne_true),fun h=>absurd h (by rw [show upd l 2 true 4=l 4 from rfl,hn 4 rfl];exact Bool.false_ne_true),fun h=>absurd h (by rw [show upd l 2 true 5=l 5 from rfl,hn 5 rfl];exact Bool.false_ne_true),fun h=>absurd h (by rw [show upd l 2 true 6=l 6 from rfl,hn 6 rfl];exact Bool.false_ne_true),fun h=>absurd h (by rw [show upd l 2 true 7=l 7 from rfl,hn 7 rfl];exact Bool.false_ne_true),fun h=>absurd h (by rw [show upd l 2 true 8=l 8 from rfl,hn 8 rfl];exact Bool.false_ne_true),fun h=>hf.out.2.2.2.2.2.2.2.2.2.2.1 h,fun h=>hf.out.2.2.2.2.2.2.2.2.2.2.2.1 h,fun h=>absurd h (by rw [show upd l 2 true 13=l 13 from rfl,hn 13 rfl];exact Bool.false_ne_true)⟩
    · intro l s wx hl hd hn hf0 K hK
      have hf:=Lib.hid hf0
      clear hf0
      have hB:=hf.out.1
      have e2:=(hf.out.2.2.2.1 (hd 2 rfl))
      go_simp
      go_at_call 8
      refine (toHand_any h _).mono ?_
      rintro _ wy ⟨rfl,hE⟩
      refine hK.out (upd s 100 (.agg (hvals h))) _ _ (by simp [upd_at,e2] <;> rfl) ⟨bT hB hE,fun h=>hf.out.2.1 h,fun h=>fun h4=>(let ⟨g1,g2,e,R1,R2⟩:=(hf.out.2.2.1 h) h4;⟨g1,g2,e,R1.belowS hE,R2.belowS hE⟩),fun h=>hf.out.2.2.2.1 h,fun _=>rfl,fun h=>absurd h (by rw [show upd l 3 true 4=l 4 from rfl,hn 4 rfl];exact Bool.false_ne_true),fun h=>absurd h (by rw [show upd l 3 true 5=l 5 from rfl,hn 5 rfl];exact Bool.false_ne_true),fun h=>absurd h (by rw [show upd l 3 true 6=l 6 from rfl,hn 6 rfl];exact Bool.false_ne_true),fun h=>absurd h (by rw [show upd l 3 true 7=l 7 from rfl,hn 7 rfl];exact Bool.false_ne_true),fun h=>absurd h (by rw [show upd l 3 true 8=l 8 from rfl,hn 8 rfl];exact Bool.false_ne_true),fun h=>IsBox.below (hf.out.2.2.2.2.2.2.2.2.2.2.1 h) hE,fun h=>IsBox.below (hf.out.2.2.2.2.2.2.2.2.2.2.2.1 h) hE,fun h=>absurd h (by rw [show upd l 3 true 13=l 13 from rfl,hn 13 rfl];exact Bool.false_ne_true)⟩
    · intro l s wx hl hd hn hf0 K hK
      have hf:=Lib.hid hf0
      clear hf0
      have hB:=hf.out.1
      have et:=hf.out.2.2.2.2.1 (hd 3 rfl)
      obtain ⟨g1,g2,ec,R1,R2⟩:=hf.out.2.2.1 (hd 1 rfl) hl
      go_simp
      go_at_call 9
      refine (HI.out _ _ _ _ _ R1.seg (fun e=>by cases e) R2.seg (fun e=>by cases e)).mono ?_
      rintro _ wy ⟨⟨v1,v2,rfl,X1,X2,_,_⟩,hE⟩
      refine hK.out (upd (upd (upd s 1003 (v1)) 1004 (v2)) 101 (.tuple #[.agg (cvals x.1 v1 v2),.agg (hvals x.2.1),.bool x.2.2])) _ _ (by simp [upd_at,ec,et] <;> rfl) ⟨bT hB hE,fun h=>hf.out.2.1 h,fun _ h4=>absurd h4 (by rw [show upd l 4 true 4=true from rfl];decide),fun h=>hf.out.2.2.2.1 h,fun h=>hf.out.2.2.2.2.1 h,fun _=>⟨rfl,own_lo X1 hB.size,own_lo X2 hB.size⟩,fun h=>absurd h (by rw [show upd l 4 true 5=l 5 from rfl,hn 5 rfl];exact Bool.false_ne_true),fun h=>absurd h (by rw [show upd l 4 true 6=l 6 from rfl,hn 6 rfl];exact Bool.false_ne_true),fun h=>absurd h (by rw [show upd l 4 true 7=l 7 from rfl,hn 7 rfl];exact Bool.false_ne_true),fun h=>absurd h (by rw [show upd l 4 true 8=l 8 from rfl,hn 8 rfl];exact Bool.false_ne_true),fun h=>by (have ee:l 11=false:=hn 11 rfl);(have F:=hf.out.2.2.2.2.2.2.2.2.2.2.1 h);rw [ee] at F;rw [show upd l 4 true 11=false from ee];exact F.below hE,fun h=>by (have ee:l 12=false:=hn 12 rfl);(have F:=hf.out.2.2.2.2.2.2.2.2.2.2.2.1 h);rw [ee] at F;rw [show upd l 4 true 12=false from ee];exact F.below hE,fun h=>absurd h (by rw [show upd l 4 true 13=l 13 from rfl,hn 13 rfl];exact Bool.false_ne_true)⟩
    · intro l s wx hl hd hn hf0 K hK
      have hf:=Lib.hid hf0
      clear hf0
      have hB:=hf.out.1
      have e4:=(hf.out.2.2.2.2.2.1 (hd 4 rfl)).1
      go_simp
      refine hK.out (upd s 96 (.tuple #[.agg (cvals x.1 (s 1003) (s 1004)),.agg (hvals x.2.1),.bool x.2.2])) _ _ (by simp [upd_at,e4] <;> rfl) ⟨hB,fun h=>hf.out.2.1 h,fun h=>hf.out.2.2.1 h,fun h=>hf.out.2.2.2.1 h,fun h=>hf.out.2.2.2.2.1 h,fun h=>hf.out.2.2.2.2.2.1 h,fun _=>rfl,fun h=>absurd h (by rw [show upd l 5 true 6=l 6 from rfl,hn 6 rfl];exact Bool.false_ne_true),fun h=>absurd h (by rw [show upd l 5 true 7=l 7 from rfl,hn 7 rfl];exact Bool.false_ne_true),fun h=>absurd h (by rw [show upd l 5 true 8=l 8 from rfl,hn 8 rfl];exact Bool.false_ne_true),fun h=>hf.out.2.2.2.2.2.2.2.2.2.2.1 h,fun h=>hf.out.2.2.2.2.2.2.2.2.2.2.2.1 h,fun h=>absurd h (by rw [show upd l 5 true 13=l 13 from rfl,hn 13 rfl];exact Bool.false_ne_true)⟩
    · intro l s wx hl hd hn hf0 K hK
      have hf:=Lib.hid hf0
      clear hf0
      have hB:=hf.out.1
      have e5:=(hf.out.2.2.2.2.2.2.1 (hd 5 rfl))
      go_simp
      refine hK.out (upd s 102 (.agg (cvals x.1 (s 1003) (s 1004)))) _ _ (by simp [upd_at,e5] <;> rfl) ⟨hB,fun h=>hf.out.2.1 h,fun h=>hf.out.2.2.1 h,fun h=>hf.out.2.2.2.1 h,fun h=>hf.out.2.2.2.2.1 h,fun h=>hf.out.2.2.2.2.2.1 h,fun h=>hf.out.2.2.2.2.2.2.1 h,fun _=>rfl,fun h=>hf.out.2.2.2.2.2.2.2.2.1 h,fun h=>hf.out.2.2.2.2.2.2.2.2.2.1 h,fun h=>hf.out.2.2.2.2.2.2.2.2.2.2.1 h,fun h=>hf.out.2.2.2.2.2.2.2.2.2.2.2.1 h,fun h=>hf.out.2.2.2.2.2.2.2.2.2.2.2.2 h⟩
    · intro l s wx hl hd hn hf0 K hK
      have hf:=Lib.hid hf0
      clear hf0
      have hB:=hf.out.1
      have e5:=(hf.out.2.2.2.2.2.2.1 (hd 5 rfl))
      go_simp
      refine hK.out (upd s 103 (.agg (hvals x.2.1))) _ _ (by simp [upd_at,e5] <;> rfl) ⟨hB,fun h=>hf.out.2.1 h,fun h=>hf.out.2.2.1 h,fun h=>hf.out.2.2.2.1 h,fun h=>hf.out.2.2.2.2.1 h,fun h=>hf.out.2.2.2.2.2.1 h,fun h=>hf.out.2.2.2.2.2.2.1 h,fun h=>hf.out.2.2.2.2.2.2.2.1 h,fun _=>rfl,fun h=>hf.out.2.2.2.2.2.2.2.2.2.1 h,fun h=>hf.out.2.2.2.2.2.2.2.2.2.2.1 h,fun h=>hf.out.2.2.2.2.2.2.2.2.2.2.2.1 h,fun h=>hf.out.2.2.2.2.2.2.2.2.2.2.2.2 h⟩
    · intro l s wx hl hd hn hf0 K hK
      have hf:=Lib.hid hf0
      clear hf0
      have hB:=hf.out.1
      have e5:=(hf.out.2.2.2.2.2.2.1 (hd 5 rfl))
      go_simp
      refine hK.out (upd s 104 (.bool x.2.2)) _ _ (by simp [upd_at,e5] <;> rfl) ⟨hB,fun h=>hf.out.2.1 h,fun h=>hf.out.2.2.1 h,fun h=>hf.out.2.2.2.1 h,fun h=>hf.out.2.2.2.2.1 h,fun h=>hf.out.2.2.2.2.2.1 h,fun h=>hf.out.2.2.2.2.2.2.1 h,fun h=>hf.out.2.2.2.2.2.2.2.1 h,fun h=>hf.out.2.2.2.2.2.2.2.2.1 h,fun _=>rfl,fun h=>hf.out.2.2.2.2.2.2.2.2.2.2.1 h,fun h=>hf.out.2.2.2.2.2.2.2.2.2.2.2.1 h,fun h=>absurd h (by rw [show upd l 8 true 13=l 13 from rfl,hn 13 rfl];exact Bool.false_ne_true)⟩
    · intro l s wx hl hd hn hf0 K hK
      have hf:=Lib.hid hf0
      clear hf0
      have hB:=hf.out.1
      go_simp
      refine hK.out (upd s 16 (.pointer (some ⟨wx.heap.size,0,none⟩))) _ _ (by simp [upd_at] <;> rfl) ⟨bT hB (belowAlloc _ _),fun h=>hf.out.2.1 h,fun h=>fun h4=>(let ⟨g1,g2,e,R1,R2⟩:=(hf.out.2.2.1 h) h4;⟨g1,g2,e,R1.belowS (belowAlloc _ _),R2.belowS (belowAlloc _ _)⟩),fun h=>hf.out.2.2.2.1 h,fun h=>hf.out.2.2.2.2.1 h,fun h=>(let ⟨e,X1,X2⟩:=(hf.out.2.2.2.2.2.1 h);⟨e,own_below X1 (belowAlloc _ _),own_below X2 (belowAlloc _ _)⟩),fun h=>hf.out.2.2.2.2.2.2.1 h,fun h=>hf.out.2.2.2.2.2.2.2.1 h,fun h=>hf.out.2.2.2.2.2.2.2.2.1 h,fun h=>hf.out.2.2.2.2.2.2.2.2.2.1 h,fun _=>by rw [show upd l 9 true 11=false from hn 11 rfl];exact IsBox.new hB.size,fun h=>IsBox.below (hf.out.2.2.2.2.2.2.2.2.2.2.2.1 h) (belowAlloc _ _),fun h=>hf.out.2.2.2.2.2.2.2.2.2.2.2.2 h⟩
    · intro l s wx hl hd hn hf0 K hK
      have hf:=Lib.hid hf0
      clear hf0
      have hB:=hf.out.1
      go_simp
      refine hK.out (upd s 17 (.pointer (some ⟨wx.heap.size,0,none⟩))) _ _ (by simp [upd_at] <;> rfl) ⟨bT hB (belowAlloc _ _),fun h=>hf.out.2.1 h,fun h=>fun h4=>(let ⟨g1,g2,e,R1,R2⟩:=(hf.out.2.2.1 h) h4;⟨g1,g2,e,R1.belowS (belowAlloc _ _),R2.belowS (belowAlloc _ _)⟩),fun h=>hf.out.2.2.2.1 h,fun h=>hf.out.2.2.2.2.1 h,fun h=>(let ⟨e,X1,X2⟩:=(hf.out.2.2.2.2.2.1 h);⟨e,own_below X1 (belowAlloc _ _),own_below X2 (belowAlloc _ _)⟩),fun h=>hf.out.2.2.2.2.2.2.1 h,fun h=>hf.out.2.2.2.2.2.2.2.1 h,fun h=>hf.out.2.2.2.2.2.2.2.2.1 h,fun h=>hf.out.2.2.2.2.2.2.2.2.2.1 h,fun h=>IsBox.below (hf.out.2.2.2.2.2.2.2.2.2.2.1 h) (belowAlloc _ _),fun _=>by rw [show upd l 10 true 12=false from hn 12 rfl];exact IsBox.new hB.size,fun h=>hf.out.2.2.2.2.2.2.2.2.2.2.2.2 h⟩
    · intro l s wx hl hd hn hf0 K hK
      have hf:=Lib.hid hf0
      clear hf0
      have hB:=hf.out.1
      have e4:=(hf.out.2.2.2.2.2.1 (hd 4 rfl))
      have e6:=(hf.out.2.2.2.2.2.2.2.1 (hd 6 rfl))
      have X1:=e4.2.1
      have X2:=e4.2.2
      clear e4
      obtain ⟨bb,eb,hlo,zb⟩:=hf.out.2.2.2.2.2.2.2.2.2.2.1 (hd 9 rfl)
      rw [hl] at zb
      dsimp only [cond] at zb
      obtain ⟨xa,xp,ea,_⟩:=X1.seg
      obtain ⟨xb,xq,eb2,_⟩:=X2.seg
      rw [ea,eb2] at e6
      go_simp
      have zn:hp (setBox wx bb (cvals x.1 (.slice xa x.1.cells.length xp) (.slice xb x.1.words.length xq))) bb=some (.cells (cvals x.1 (s 1003) (s 1004)) 33):=by rw [ea,eb2];exact hp_set zb
      refine hK.out (s) _ _ (by simp [upd_at,eb,e6,ea,eb2] <;> rfl) ⟨bBx hB hlo,fun h=>hf.out.2.1 h,fun _ h4=>absurd ((hd 4 rfl).symm.trans h4) (by decide),fun h=>hf.out.2.2.2.1 h,fun h=>hf.out.2.2.2.2.1 h,fun h=>⟨(hf.out.2.2.2.2.2.1 h).1,own_far (hf.out.2.2.2.2.2.1 h).2.1 zb (by decide),own_far (hf.out.2.2.2.2.2.1 h).2.2 zb (by decide)⟩,fun h=>hf.out.2.2.2.2.2.2.1 h,fun h=>hf.out.2.2.2.2.2.2.2.1 h,fun h=>hf.out.2.2.2.2.2.2.2.2.1 h,fun h=>hf.out.2.2.2.2.2.2.2.2.2.1 h,fun _=>⟨bb,eb,hlo,zn⟩,fun h=>IsBox.far (hf.out.2.2.2.2.2.2.2.2.2.2.2.1 h) zb (by decide),fun h=>hf.out.2.2.2.2.2.2.2.2.2.2.2.2 h⟩
    · intro l s wx hl hd hn hf0 K hK
      have hf:=Lib.hid hf0
      clear hf0
      have hB:=hf.out.1
      have e4:=(hf.out.2.2.2.2.2.1 (hd 4 rfl))
      have e7:=(hf.out.2.2.2.2.2.2.2.2.1 (hd 7 rfl))
      have X1:=e4.2.1
      have X2:=e4.2.2
      clear e4
      obtain ⟨bb,eb,hlo,zb⟩:=hf.out.2.2.2.2.2.2.2.2.2.2.2.1 (hd 10 rfl)
      rw [hl] at zb
      dsimp only [cond] at zb
      go_simp
      have zn:hp (setBox wx bb (hvals x.2.1)) bb=some (.cells (hvals x.2.1) 36):=by exact hp_set zb
      refine hK.out (s) _ _ (by simp [upd_at,eb,e7] <;> rfl) ⟨bBx hB hlo,fun h=>hf.out.2.1 h,fun _ h4=>absurd ((hd 4 rfl).symm.trans h4) (by decide),fun h=>hf.out.2.2.2.1 h,fun h=>hf.out.2.2.2.2.1 h,fun h=>⟨(hf.out.2.2.2.2.2.1 h).1,own_far (hf.out.2.2.2.2.2.1 h).2.1 zb (by decide),own_far (hf.out.2.2.2.2.2.1 h).2.2 zb (by decide)⟩,fun h=>hf.out.2.2.2.2.2.2.1 h,fun h=>hf.out.2.2.2.2.2.2.2.1 h,fun h=>hf.out.2.2.2.2.2.2.2.2.1 h,fun h=>hf.out.2.2.2.2.2.2.2.2.2.1 h,fun h=>IsBox.far (hf.out.2.2.2.2.2.2.2.2.2.2.1 h) zb (by decide),fun _=>⟨bb,eb,hlo,zn⟩,fun h=>hf.out.2.2.2.2.2.2.2.2.2.2.2.2 h⟩
    · intro l s wx hl hd hn hf0 K hK
      have hf:=Lib.hid hf0
      clear hf0
      have hB:=hf.out.1
      have e8:=(hf.out.2.2.2.2.2.2.2.2.2.1 (hd 8 rfl))
      go_simp
      refine hK.out (upd s 18 (.bool x.2.2)) _ _ (by simp [upd_at,e8] <;> rfl) ⟨hB,fun h=>hf.out.2.1 h,fun h=>hf.out.2.2.1 h,fun h=>hf.out.2.2.2.1 h,fun h=>hf.out.2.2.2.2.1 h,fun h=>hf.out.2.2.2.2.2.1 h,fun h=>hf.out.2.2.2.2.2.2.1 h,fun h=>hf.out.2.2.2.2.2.2.2.1 h,fun h=>hf.out.2.2.2.2.2.2.2.2.1 h,fun h=>hf.out.2.2.2.2.2.2.2.2.2.1 h,fun h=>hf.out.2.2.2.2.2.2.2.2.2.2.1 h,fun h=>hf.out.2.2.2.2.2.2.2.2.2.2.2.1 h,fun _=>rfl⟩
end Go.Proofs.Ytajopaegmocnlaa
set_option maxRecDepth 100000
set_option linter.unusedSimpArgs false
set_option linter.unusedVariables false
namespace Go.Proofs.Ytajopaegmocnlaa
open Go.ChangeShapes Go.WideShapes Go.ChangeAt Go.RowKit Go.Deep
theorem own:ownKnob Try.prog.godebug=none:=by kernel_rfl
theorem laidOut:laidOutB Try.prog=true:=by kernel_rfl
section
variable {H:Type} {enc:TypeId × Value→H} {P:Program} {w:World} {spare:Nat→Bool} {held:Bool}
/-- A slice of elements that can be read lies in memory as said. -/
theorem dSlice {α:Type} (k:Nat) (val:α→Nat→Value) (Q:α→Prop) (d0:α) {t e:TypeId} (ht:P.underlying t=some (.slice e)) (hk:P.cellsOf e=k) (hk0:0<k)
    (dec:∀ (fuel:Nat) (cs:List Value) (x:DataW H × List MemPlace),DataW.trod enc P w 0 spare held fuel e cs=some x→∃ c:α,Q c∧∀ j,j<k→cs[j]?=some (val c j))
    {fuel:Nat} {cs:List Value} {x:DataW H × List MemPlace} (h:DataW.trod enc P w 0 spare held fuel t cs=some x) :
    ∃ (a:Option Addr) (l:List α) (cap:Nat),cs=[.slice a l.length cap]∧l.length≤cap∧cap≤maxLen∧(∀ c ∈ l,Q c)∧Seg w w.heap.size a l.length k (fun i j=>val (l.getD i d0) j):=by
  rcases open_slice ht h with ⟨hcs,_⟩|⟨ad,len,cap,m,n,D,Pl,hcs,_,hl,hm,hmm,_,hi⟩
  · exact ⟨none,[],0,hcs,Nat.le_refl _,Nat.zero_le _,by simp,.inl rfl⟩
  · have hlm:len≤m:=by rw [hmm];split <;> omega
    have hx:∀ i:Nat,∃ c:α,i<len→(Q c∧∀ j,j<k→w.cell? (ad.add (i*k+j))=some (val c j)):=by
      intro i
      by_cases hlt:i<len
      · obtain ⟨cs',hc,htr⟩:=hi i (by omega)
        rw [hk] at hc
        obtain ⟨_,_,hat⟩:=World.cells?_some hc
        obtain ⟨c,hq,hv⟩:=dec _ _ _ htr
        refine ⟨c,fun _=>⟨hq,fun j hj=>?_⟩⟩
        rw [← Go.Deep.add_add,hat j hj,hv j hj]
      · exact ⟨d0,fun h=>absurd h hlt⟩
    obtain ⟨g,hg⟩:=Classical.axiomOfChoice hx
    refine ⟨some ad,(List.range len).map g,cap,by simpa using hcs,by simpa using hl,hm,?_,?_⟩
    · intro c hc
      obtain ⟨i,hi',rfl⟩:=List.mem_map.1 hc
      exact (hg i (List.mem_range.1 hi')).1
    · by_cases h0:len=0
      · exact .inl (by simpa using h0)
      · obtain ⟨b,off,spot⟩:=ad
        have hz:=(hg 0 (by omega)).2 0 hk0
        have hspot:spot=none:=by simpa [Addr.add] using World.cell?_spot hz
        subst hspot
        refine .inr ⟨b,off,rfl,?_,fun i j hi' hj=>?_⟩
        · have:=block_lt_of_cell hz
          simpa [Addr.add] using this
        · have hlt:i<len:=by simpa using hi'
          have:=(hg i hlt).2 j hj
          rw [add_plain,← Nat.add_assoc] at this
          rw [this]
          simp [List.getD,hlt]
end
/-- Every field is one int64, in its place. -/
def allInts (P:Program) (fs:Array Field):Bool:=fs.toList.zipIdx.all fun (f,i)=>decide (f.offset=i) && decide (P.cellsOf f.type=1) && (match P.underlying f.type with|some (.int .i64)=>true|_=>false)
theorem allInts_at {P:Program} {fs:Array Field} (h:allInts P fs=true) {j:Nat} {f:Field} (hj:fs[j]?=some f):f.offset=j∧P.cellsOf f.type=1∧P.underlying f.type=some (.int .i64):=by
  have hm:(f,j) ∈ fs.toList.zipIdx:=by
    rw [List.mem_zipIdx_iff_getElem?]
    simpa using hj
  have:=List.all_eq_true.1 h _ hm
  simp only [Bool.and_eq_true,decide_eq_true_eq] at this
  refine ⟨this.1.1,this.1.2,?_⟩
  have h2:=this.2
  split at h2
  · assumption
  · cases h2
section
variable {H:Type} {enc:TypeId × Value→H} {P:Program} {w:World} {spare:Nat→Bool} {held:Bool}
theorem dInts {t:TypeId} {fs:Array Field} (ht:P.underlying t=some (.struct fs)) (hall:allInts P fs=true) (hC:P.cellsOf t=fs.size)
    {fuel:Nat} {cs:List Value} {x:DataW H × List MemPlace} (h:DataW.trod enc P w 0 spare held fuel t cs=some x) :
    cs.length=fs.size∧∃ g:Nat→Int,∀ j,j<fs.size→(cs[j]?=some (.int .i64 (g j))∧(Lit.int .i64 (g j)).wf=true):=by
  obtain ⟨xs,n,_,_,hlen,hxl,hf⟩:=DataW.trod_struct ht h
  have hx:∀ j:Nat,∃ a:Int,j<fs.size→(cs[j]?=some (.int .i64 a)∧(Lit.int .i64 a).wf=true):=by
    intro j
    by_cases hj:j<fs.size
    · obtain ⟨h1,h2,h3⟩:=allInts_at hall (Array.getElem?_eq_getElem hj)
      have g:=hf j _ (Array.getElem?_eq_getElem hj)
      rw [h1,h2,List.getElem?_eq_getElem (by omega)] at g
      obtain ⟨a,ea,_,wa⟩:=DataW.trod_int h3 g
      refine ⟨a,fun _=>⟨?_,wa⟩⟩
      have e:=congrArg (fun l:List Value=>l[0]?) ea
      simpa [List.getElem?_take,List.getElem?_drop] using e
    · exact ⟨0,fun h=>absurd h hj⟩
  obtain ⟨g,hg⟩:=Classical.axiomOfChoice hx
  exact ⟨hlen.trans hC,g,hg⟩
end
def C3.wf (c:C3):Prop:=(Lit.int .i64 c.s).wf=true∧(Lit.int .i64 c.e).wf=true∧(Lit.int .i64 c.t).wf=true
section
variable {H:Type} {enc:TypeId × Value→H} {w:World} {spare:Nat→Bool} {held:Bool}
theorem dCell (fuel:Nat) (cs:List Value) (x:DataW H × List MemPlace) (h:DataW.trod enc Try.prog w 0 spare held fuel 79 cs=some x) :
    ∃ c:C3,c.wf∧∀ j,j<3→cs[j]?=some (c.val j):=by
  obtain ⟨_,g,hg⟩:=dInts Try.underlying79 (by kernel_rfl) (by kernel_rfl) h
  refine ⟨⟨g 0,g 1,g 2⟩,⟨(hg 0 (by decide)).2,(hg 1 (by decide)).2,(hg 2 (by decide)).2⟩,fun j hj=>?_⟩
  have:j=0∨j=1∨j=2:=by omega
  rcases this with rfl|rfl|rfl
  · exact (hg 0 (by decide)).1
  · exact (hg 1 (by decide)).1
  · exact (hg 2 (by decide)).1
end
end Go.Proofs.Ytajopaegmocnlaa
set_option maxRecDepth 100000
set_option linter.unusedSimpArgs false
set_option linter.unusedVariables false
namespace Go.Proofs.Ytajopaegmocnlaa
open Go.ChangeShapes Go.WideShapes Go.ChangeAt Go.RowKit Go.Deep
section
variable {H:Type} {enc:TypeId × Value→H} {w:World} {spare:Nat→Bool} {held:Bool}
theorem dInt (fuel:Nat) (cs:List Value) (x:DataW H × List MemPlace) (hx:DataW.trod enc Try.prog w 0 spare held fuel 2 cs=some x) :
    ∃ c:Int,(Lit.int .i64 c).wf=true∧∀ j,j<1→cs[j]?=some (Value.int .i64 c):=by
  obtain ⟨c,rfl,_,hw⟩:=DataW.trod_int Try.underlying2 hx
  refine ⟨c,hw,fun j hj=>?_⟩
  have:j=0:=by omega
  subst this;rfl
/-- A channel as an argument. -/
theorem oChan {r:Reach} {b0:Nat} {v:Value} {d:DataW H} {pl:List MemPlace} (hv:Value.okWide Try.prog w r b0 25 v) (h:DataW.Trod enc Try.prog w 0 spare held 25 v d pl) :
    ∃ (c:Ch) (a b:Option Addr) (p q:Nat),v=.agg #[.int .i64 c.cap,.int .i64 c.sent,.int .i64 c.got,.int .i64 c.fin,.slice a c.cells.length p,.slice b c.words.length q]∧c.cells.length≤maxLen∧c.words.length≤maxLen ∧
      Seg w w.heap.size a c.cells.length 3 (cellF c.cells)∧Seg w w.heap.size b c.words.length 1 (intF c.words):=by
  obtain ⟨cs,rfl,hsz⟩:=okWide_struct Try.underlying25 hv
  obtain ⟨l⟩:=cs
  have h3:Try.prog.cellsOf 25=6:=by kernel_rfl
  have hs:l.length=6:=by simpa [h3] using hsz
  obtain ⟨fuel,hf⟩:=h
  obtain ⟨xs,n,_,_,hlen,hxl,hg⟩:=DataW.trod_struct Try.underlying25 hf
  match l,hs with
  | [v0,v1,v2,v3,v4,v5],_ =>
    have c2:Try.prog.cellsOf 2=1:=by kernel_rfl
    have c4:Try.prog.cellsOf 22=1:=by kernel_rfl
    have c5:Try.prog.cellsOf 23=1:=by kernel_rfl
    have g0:=hg 0 _ rfl
    have g1:=hg 1 _ rfl
    have g2:=hg 2 _ rfl
    have g3:=hg 3 _ rfl
    have g4:=hg 4 _ rfl
    have g5:=hg 5 _ rfl
    rw [List.getElem?_eq_getElem (by simp at hxl;omega)] at g0 g1 g2 g3 g4 g5
    obtain ⟨x0,_,e0⟩:=dInt _ _ _ g0
    obtain ⟨x1,_,e1⟩:=dInt _ _ _ g1
    obtain ⟨x2,_,e2⟩:=dInt _ _ _ g2
    obtain ⟨x3,_,e3⟩:=dInt _ _ _ g3
    obtain ⟨a,cells,p,e4,m1,m2,_,s1⟩:=dSlice 3 C3.val C3.wf ⟨0,0,0⟩ Try.underlying22 (by kernel_rfl) (by decide) dCell g4
    obtain ⟨b,words,q,e5,m3,m4,_,s2⟩:=dSlice 1 (fun (c:Int) _=>.int .i64 c) (fun c=>(Lit.int .i64 c).wf=true) 0 Try.underlying23 (by kernel_rfl) (by decide) dInt g5
    replace e0:=e0 0 (by omega)
    replace e1:=e1 0 (by omega)
    replace e2:=e2 0 (by omega)
    replace e3:=e3 0 (by omega)
    simp [c2,Value.cells] at e0 e1 e2 e3
    simp [c4,Value.cells] at e4
    simp [c5,Value.cells] at e5
    subst e0 e1 e2 e3 e4 e5
    exact ⟨⟨x0,x1,x2,x3,cells,words⟩,a,b,p,q,rfl,Nat.le_trans m1 m2,Nat.le_trans m3 m4,s1,s2⟩
end
end Go.Proofs.Ytajopaegmocnlaa
set_option maxRecDepth 100000
set_option linter.unusedSimpArgs false
set_option linter.unusedVariables false
namespace Go.Proofs.Ytajopaegmocnlaa
open Go.ChangeShapes Go.WideShapes Go.ChangeAt Go.RowKit Go.Deep
section
variable {H:Type} {enc:TypeId × Value→H} {w:World} {spare:Nat→Bool} {held:Bool}
theorem dCallL (fuel:Nat) (cs:List Value) (x:DataW H × List MemPlace) (h:DataW.trod enc Try.prog w 0 spare held fuel 27 cs=some x) :
    ∃ k e:Int,cs[0]?=some (.int .i64 k)∧cs[1]?=some (.int .i64 e):=by
  obtain ⟨_,g,hg⟩:=dInts Try.underlying27 (by kernel_rfl) (by kernel_rfl) h
  exact ⟨g 0,g 1,(hg 0 (by decide)).1,(hg 1 (by decide)).1⟩
theorem dIntL (fuel:Nat) (cs:List Value) (x:DataW H × List MemPlace) (hx:DataW.trod enc Try.prog w 0 spare held fuel 2 cs=some x):∃ c:Int,cs[0]?=some (Value.int .i64 c):=by
  obtain ⟨c,rfl,_,_⟩:=DataW.trod_int Try.underlying2 hx
  exact ⟨c,rfl⟩
set_option maxRecDepth 100000 in
theorem dHand (fuel:Nat) (cs:List Value) (x:DataW H × List MemPlace) (h:DataW.trod enc Try.prog w 0 spare held fuel 29 cs=some x) :
    ∃ y:Ha,∀ j,j<14→cs[j]?=(hvals y)[j]?:=by
  obtain ⟨xs,n,_,_,hlen,hxl,hg⟩:=DataW.trod_struct Try.underlying29 h
  have c2:Try.prog.cellsOf 2=1:=by kernel_rfl
  have c3:Try.prog.cellsOf 27=2:=by kernel_rfl
  have g0:=hg 0 _ rfl
  have g1:=hg 1 _ rfl
  have g2:=hg 2 _ rfl
  have g3:=hg 3 _ rfl
  have g4:=hg 4 _ rfl
  have g5:=hg 5 _ rfl
  have g6:=hg 6 _ rfl
  have g7:=hg 7 _ rfl
  have g8:=hg 8 _ rfl
  have g9:=hg 9 _ rfl
  have g10:=hg 10 _ rfl
  have g11:=hg 11 _ rfl
  have g12:=hg 12 _ rfl
  rw [List.getElem?_eq_getElem (by simp at hxl;omega)] at g0 g1 g2 g3 g4 g5 g6 g7 g8 g9 g10 g11 g12
  obtain ⟨x0,e0⟩:=dIntL _ _ _ g0
  obtain ⟨k,e,ek,ee⟩:=dCallL _ _ _ g1
  obtain ⟨x2,e2⟩:=dIntL _ _ _ g2
  obtain ⟨x3,e3⟩:=dIntL _ _ _ g3
  obtain ⟨x4,e4⟩:=dIntL _ _ _ g4
  obtain ⟨x5,e5⟩:=dIntL _ _ _ g5
  obtain ⟨x6,e6⟩:=dIntL _ _ _ g6
  obtain ⟨x7,e7⟩:=dIntL _ _ _ g7
  obtain ⟨x8,e8⟩:=dIntL _ _ _ g8
  obtain ⟨x9,e9⟩:=dIntL _ _ _ g9
  obtain ⟨x10,e10⟩:=dIntL _ _ _ g10
  obtain ⟨x11,e11⟩:=dIntL _ _ _ g11
  obtain ⟨x12,e12⟩:=dIntL _ _ _ g12
  simp [c2,c3,List.getElem?_take,List.getElem?_drop] at e0 ek ee e2 e3 e4 e5 e6 e7 e8 e9 e10 e11 e12
  refine ⟨⟨x0,k,e,x2,x3,x4,x5,x6,x7,x8,x9,x10,x11,x12⟩,fun j hj=>?_⟩
  have hj2:j=0∨j=1∨j=2∨j=3∨j=4∨j=5∨j=6∨j=7∨j=8∨j=9∨j=10∨j=11∨j=12∨j=13:=by omega
  rcases hj2 with rfl|rfl|rfl|rfl|rfl|rfl|rfl|rfl|rfl|rfl|rfl|rfl|rfl|rfl
  · exact e0
  · exact ek
  · exact ee
  · exact e2
  · exact e3
  · exact e4
  · exact e5
  · exact e6
  · exact e7
  · exact e8
  · exact e9
  · exact e10
  · exact e11
  · exact e12
/-- A hand as an argument. -/
theorem oHand {r:Reach} {b0:Nat} {v:Value} {d:DataW H} {p:List MemPlace} (hv:Value.okWide Try.prog w r b0 29 v) (h:DataW.Trod enc Try.prog w 0 spare held 29 v d p) :
    ∃ y:Ha,v=.agg (hvals y):=by
  obtain ⟨cs,rfl,hsz⟩:=okWide_struct Try.underlying29 hv
  have h3:Try.prog.cellsOf 29=14:=by kernel_rfl
  obtain ⟨fuel,hf⟩:=h
  obtain ⟨y,hy⟩:=dHand _ _ _ hf
  refine ⟨y,congrArg Value.agg (Array.ext_getElem? fun j=>?_)⟩
  by_cases hj:j<14
  · have:=hy j hj
    simpa [Value.cells] using this
  · rw [Array.getElem?_eq_none (by omega),Array.getElem?_eq_none (by rw [hv_size];omega)]
end
end Go.Proofs.Ytajopaegmocnlaa
