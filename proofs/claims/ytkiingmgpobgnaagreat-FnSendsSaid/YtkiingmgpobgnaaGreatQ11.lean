/-
  A step touches one thing at most: a counter, a cell, or a word, but for a word that is new; on plain numbers and lists; no condition.
  The laws' count of what has been touched, of any two channels whose lists hold at most 2 ^ 20 elements; no condition but that lists lie in memory.
  The laws' comparisons of lists and of channels, of two that hold the same; lists of any length that memory holds.
  Two hands that are kept whole are compared as structs; no condition.
  The contracts of the program's functions of chapter 1; no condition but that lists lie in memory.
  The contracts of the program's functions of chapter 4; no condition.
  The contracts of the program's functions of chapter 5, on hands that are kept whole; no condition.
  The program's HandOk, Resting, Called, on hands that are kept whole; no condition.
  The program's Resting, Called, on hands that are kept whole; no condition.
-/
import Derived.Test.YtkiingmgpobgnaaGreatQ09
import Derived.Test.YtkiingmgpobgnaaGreatQ01
import Derived.Laws.StructEq
import Derived.Deep.CutBlock
import Derived.Deep.DeepCutAuto
import Derived.Deep.QuietTactic
import Derived.BigQuiet
import Derived.Test.YtkiingmgpobgnaaGreatQ08
import Derived.BigRegion
import Derived.StillTailTactics
set_option linter.unusedSimpArgs false
set_option linter.unusedVariables false
namespace Go.Proofs.YtkiingmgpobgnaaGreat
def sameC (a b:C3):Bool:=a.s == b.s && (a.e == b.e && a.t == b.t)
theorem sameC_self (a:C3):sameC a a=true:=by simp [sameC]
/-- How many cells, how many words are others. -/
def diffC:List C3→List C3→Nat
  | a :: l,b :: m=>(if sameC a b then 0 else 1)+diffC l m
  | _,_=>0
def diffI:List Int→List Int→Nat
  | a :: l,b :: m=>(if a == b then 0 else 1)+diffI l m
  | _,_=>0
def oneN (a b:Int):Nat:=if a == b then 0 else 1
def touchedN (c d:Ch):Nat:=oneN c.sent d.sent+oneN c.got d.got+oneN c.fin d.fin+diffC c.cells d.cells+diffI c.words d.words
theorem diffC_self:∀ l:List C3,diffC l l=0
  | []=>rfl
  | a :: l=>by simp [diffC,sameC_self,diffC_self l]
theorem diffI_self:∀ l:List Int,diffI l l=0
  | []=>rfl
  | a :: l=>by simp [diffI,diffI_self l]
theorem diffI_more:∀ (l m:List Int),diffI l (l ++ m)=0
  | [],m=>by cases m <;> rfl
  | a :: l,m=>by simp [diffI,diffI_more l m]
theorem diffC_set:∀ (l:List C3) (i:Nat) (x:C3),diffC l (l.set i x)≤1
  | [],_,_=>by simp [diffC]
  | a :: l,0,x=>by
    simp only [List.set_cons_zero,diffC,diffC_self]
    split <;> omega
  | a :: l,i+1,x=>by
    have:=diffC_set l i x
    simp only [List.set_cons_succ,diffC,sameC_self]
    simpa using this
theorem diffI_set:∀ (l:List Int) (i:Nat) (x:Int),diffI l (l.set i x)≤1
  | [],_,_=>by simp [diffI]
  | a :: l,0,x=>by
    simp only [List.set_cons_zero,diffI,diffI_self]
    split <;> omega
  | a :: l,i+1,x=>by
    have:=diffI_set l i x
    simp only [List.set_cons_succ,diffI]
    simpa using this
theorem oneN_self (a:Int):oneN a a=0:=by simp [oneN]
theorem oneN_le (a b:Int):oneN a b≤1:=by unfold oneN;split <;> omega
theorem touch_none (c:Ch):touchedN c c≤1:=by simp [touchedN,oneN_self,diffC_self,diffI_self]
theorem touch_sent (c:Ch) (n:Int):touchedN c { c with sent:=n }≤1:=by have:=oneN_le c.sent n;simp [touchedN,oneN_self,diffC_self,diffI_self];exact this
theorem touch_set (c:Ch) (i:Int) (x:C3):touchedN c (setAt c i x)≤1:=by have:=diffC_set c.cells i.toNat x;simp [touchedN,setAt,oneN_self,diffI_self];exact this
theorem touch_more (c:Ch) (i:Int) (x:C3) (m:List Int):touchedN c { setAt c i x with words:=c.words ++ m }≤1:=by have:=diffC_set c.cells i.toNat x;simp [touchedN,setAt,oneN_self,diffI_more];exact this
theorem touch_tell (c:Ch) (v x:Int):touchedN c (tellC c v x)≤1:=by
  unfold tellC
  split
  · have:=diffI_set c.words (v - 1).toNat x;simp only [touchedN,oneN_self,diffC_self,Nat.zero_add];exact this
  · exact touch_none c
theorem touch_wait (c:Ch) (h:Ha) (st th el:Int):touchedN c (wait6 c h st th el).1≤1:=by
  unfold wait6
  repeat' split
  · exact touch_none c
  · exact touch_more c _ _ _
  · exact touch_set c _ _
/-- What a step leaves of the channel. -/
def KeepT (c:Ch) (s:St):Prop:=s.2.2=true→chanOk s.1=true∧handOk s.2.1=true∧touchedN c s.1≤1∧c.fin≤s.1.fin∧s.1.words.length≤c.words.length+1
theorem keepT_nothing (c:Ch):KeepT c nothing:=fun e=>by cases e
theorem keepT_done {c c':Ch} {h':Ha} (H:touchedN c c'≤1) (hf:c.fin≤c'.fin) (hw:c'.words.length≤c.words.length+1):KeepT c (done c' h'):=by
  unfold done
  split
  · rename_i e
    simp at e
    exact fun _=>⟨e.1,e.2,H,hf,hw⟩
  · exact keepT_nothing c
theorem tell_fin (c:Ch) (v x:Int):(tellC c v x).fin=c.fin:=by unfold tellC;split <;> rfl
theorem wait_fin (c:Ch) (h:Ha) (st th el:Int):(wait6 c h st th el).1.fin=c.fin:=by
  unfold wait6
  repeat' split
  all_goals rfl
theorem wait_words (c:Ch) (h:Ha) (st th el:Int):(wait6 c h st th el).1.words.length≤c.words.length+1:=by
  unfold wait6;repeat' split
  all_goals simp [turnC,setAt]
theorem kN {c:Ch} {h':Ha}:KeepT c (done c h'):=keepT_done (touch_none c) (Int.le_refl _) (by omega)
theorem kS {c:Ch} {h':Ha} (i:Int) (x:C3):KeepT c (done (setAt c i x) h'):=keepT_done (touch_set c i x) (Int.le_refl _) (by simp [setAt])
theorem kSt {c:Ch} {h':Ha} (i st:Int):KeepT c (done (stateC c i st) h'):=kS i _
theorem kTu {c:Ch} {h':Ha} (i f t v:Int):KeepT c (done (turnC c i f t v) h'):=kS i _
theorem kLa {c:Ch} {h':Ha} (i m:Int):KeepT c (done (layC c i m) h'):=kS i _
theorem kT {c:Ch} {h':Ha} (v x:Int):KeepT c (done (tellC c v x) h'):=keepT_done (touch_tell c v x) (by rw [tell_fin];exact Int.le_refl _) (by rw [tell_len];omega)
theorem kW {c:Ch} {h' h:Ha} (st th el:Int):KeepT c (done (wait6 c h st th el).1 h'):=keepT_done (touch_wait c h st th el) (by rw [wait_fin];exact Int.le_refl _) (wait_words c h st th el)
theorem touch_send (c:Ch) (h:Ha):KeepT c (sendStep c h):=by
  unfold sendStep
  repeat' split
  all_goals try exact keepT_nothing c
  · unfold send1;split
    · exact kN
    · exact keepT_done (touch_sent c _) (Int.le_refl _) (by simp)
  · exact kLa _ _
  · unfold send3;split
    · exact kN
    · exact keepT_nothing c
  · exact kN
  · exact kN
  · unfold put6
    repeat' split
    all_goals first|exact keepT_nothing c|with_reducible exact kTu _ _ _ _|with_reducible exact kW _ _ _
  · exact kT _ _
  · exact kSt _ _
end Go.Proofs.YtkiingmgpobgnaaGreat
set_option linter.unusedSimpArgs false
set_option linter.unusedVariables false
namespace Go.Proofs.YtkiingmgpobgnaaGreat
open Go.RowKit
set_option linter.unusedSimpArgs false
theorem eqCellW (x y:C3) (w:World):(Op.equalIn 10000 52 (.agg #[.int .i64 x.s,.int .i64 x.e,.int .i64 x.t]) (.agg #[.int .i64 y.s,.int .i64 y.e,.int .i64 y.t])).run Tryz.prog w=.ok (sameC x y) w:=by
  have u3:=Tryz.underlying2
  have a3:=Tryz.isAgg2
  have z3:=Tryz.sizeOf2
  have hS:Tryz.prog.underlying 52=some (.struct (Tryz.prog.fieldsOf 52)):=by kernel_rfl
  rw [show (10000:Nat)=9998+1+1 from rfl,run_equalIn_agg w (9998+1) 52 _ _ hS (by kernel_rfl)]
  simp only [Program.fieldsOf,Tryz.underlying52]
  go_simp
  by_cases h1:x.s=y.s <;> by_cases h2:x.e=y.e <;> by_cases h3:x.t=y.t <;> simp [sameC,h1,h2,h3]
theorem i64eq {x y:Int} (h:x=y):Value.int .i64 x=Value.int .i64 y:=by rw [h]
theorem diffC_take:∀ (l m:List C3) (k:Nat),k<l.length→k<m.length→diffC (l.take (k+1)) (m.take (k+1))=diffC (l.take k) (m.take k)+(if sameC (l.getD k ⟨0,0,0⟩) (m.getD k ⟨0,0,0⟩) then 0 else 1)
  | [],_,_,h,_=>by simp at h
  | _ :: _,[],_,_,h=>by simp at h
  | x :: l,y :: m,0,_,_=>by simp [diffC]
  | x :: l,y :: m,k+1,h,h'=>by
    have:=diffC_take l m k (by simpa using h) (by simpa using h')
    simp only [List.take_succ_cons,diffC,List.getD_cons_succ,this]
    omega
theorem diffI_take:∀ (l m:List Int) (k:Nat),k<l.length→k<m.length→diffI (l.take (k+1)) (m.take (k+1))=diffI (l.take k) (m.take k)+(if l.getD k 0 == m.getD k 0 then 0 else 1)
  | [],_,_,h,_=>by simp at h
  | _ :: _,[],_,_,h=>by simp at h
  | x :: l,y :: m,0,_,_=>by simp [diffI]
  | x :: l,y :: m,k+1,h,h'=>by
    have:=diffI_take l m k (by simpa using h) (by simpa using h')
    simp only [List.take_succ_cons,diffI,List.getD_cons_succ,this]
    omega
theorem diffC_end:∀ (l m:List C3) (k:Nat),k≤l.length→k≤m.length→(k=l.length∨k=m.length)→diffC (l.take k) (m.take k)=diffC l m
  | [],m,k,h,_,_=>by simp [diffC]
  | x :: l,[],k,_,h,_=>by simp [diffC]
  | x :: l,y :: m,0,_,_,h=>by rcases h with h|h <;> simp at h
  | x :: l,y :: m,k+1,h,h',e=>by
    have:=diffC_end l m k (by simpa using h) (by simpa using h') (by simpa using e)
    simp only [List.take_succ_cons,diffC,this]
theorem diffI_end:∀ (l m:List Int) (k:Nat),k≤l.length→k≤m.length→(k=l.length∨k=m.length)→diffI (l.take k) (m.take k)=diffI l m
  | [],m,k,h,_,_=>by simp [diffI]
  | x :: l,[],k,_,h,_=>by simp [diffI]
  | x :: l,y :: m,0,_,_,h=>by rcases h with h|h <;> simp at h
  | x :: l,y :: m,k+1,h,h',e=>by
    have:=diffI_end l m k (by simpa using h) (by simpa using h') (by simpa using e)
    simp only [List.take_succ_cons,diffI,this]
theorem diffC_le:∀ (l m:List C3),diffC l m≤l.length
  | [],m=>by simp [diffC]
  | x :: l,[]=>by simp [diffC]
  | x :: l,y :: m=>by
    have:=diffC_le l m
    simp only [diffC,List.length_cons]
    split <;> omega
theorem diffI_le:∀ (l m:List Int),diffI l m≤l.length
  | [],m=>by simp [diffI]
  | x :: l,[]=>by simp [diffI]
  | x :: l,y :: m=>by
    have:=diffI_le l m
    simp only [diffI,List.length_cons]
    split <;> omega
attribute [local simp] bx_size
attribute [local go_sem ↓] zeroHand zeroChan toLHand toLChan toVHand toVChan storeHand storeChan storeHandC storeChanC
attribute [local go_sem ↓] eqCellW
set_option maxRecDepth 100000 in
set_option maxHeartbeats 4000000 in
theorem touched_any (c d:Ch) (a b a' b':Option Addr) (p q p' q':Nat) (w:World) (h1:Seg w w.heap.size a c.cells.length 3 (cellF c.cells)) (h2:Seg w w.heap.size b c.words.length 1 (intF c.words)) (h3:Seg w w.heap.size a' d.cells.length 3 (cellF d.cells)) (h4:Seg w w.heap.size b' d.words.length 1 (intF d.words)) (m1:c.cells.length≤1048576) (m2:c.words.length≤1048576) (m3:d.cells.length≤1048576) (m4:d.words.length≤1048576) :
    Calls Tryz.prog 12 #[.agg (cvals c (.slice a c.cells.length p) (.slice b c.words.length q)),.agg (cvals d (.slice a' d.cells.length p') (.slice b' d.words.length q'))] w fun r w'=>r=.returned (.int .i64 (touchedN c d:Nat))∧Below w.heap.size w w':=by
  have H1:=Lib.hid h1
  have H2:=Lib.hid h2
  have H3:=Lib.hid h3
  have H4:=Lib.hid h4
  clear h1 h2 h3 h4
  go_enter Tryz.func12,Tryz.ntmps12
  go_upto_if 12 with fail
  go_cut [5] (fun s5 wx=>s5=.int .i64 (((0:Nat)+oneN c.sent d.sent:Nat):Int)∧hp wx w.heap.size=some (.cells (cvals c (.slice a c.cells.length p) (.slice b c.words.length q)) 27)∧hp wx (w.heap.size+1)=some (.cells (cvals d (.slice a' d.cells.length p') (.slice b' d.words.length q')) 27)∧Below w.heap.size w wx)
  case first =>
    have bn1:=oneN_le c.sent d.sent
    have bn2:=oneN_le c.got d.got
    by_cases e:c.sent=d.sent
    · have eb:(c.sent != d.sent)=false:=by simp [e]
      have o0:oneN c.sent d.sent=0:=by simp [oneN,e]
      clear e
      go_wp2_with fail
      go_meet
      exact ⟨by rw [o0];rfl,by simp [go_sem],by simp [go_sem],by exact zB⟩
    · have eb:(c.sent != d.sent)=true:=by simpa using e
      have o1:oneN c.sent d.sent=1:=by simp [oneN,e]
      clear e
      go_wp2_with fail
      go_meet
      exact ⟨by rw [o1];refine i64eq ?_;first|omega|(rw [IntWalk.wrap64_in _ (by omega)];omega),by simp [go_sem],by simp [go_sem],by exact zB⟩
  case rest =>
    skip
    obtain ⟨rfl,z_w,z_wp,hB⟩:=hcut
    have x_w:=(bO z_w).1
    have x_wp:=(bO z_wp).1
    have l_w:=(bO z_w).2.2
    have l_wp:=(bO z_wp).2.2
    go_upto_if 19 with fail
    go_cut [5] (fun s5 wx=>s5=.int .i64 (((0:Nat)+oneN c.sent d.sent+oneN c.got d.got:Nat):Int)∧hp wx w.heap.size=some (.cells (cvals c (.slice a c.cells.length p) (.slice b c.words.length q)) 27)∧hp wx (w.heap.size+1)=some (.cells (cvals d (.slice a' d.cells.length p') (.slice b' d.words.length q')) 27)∧Below w.heap.size w wx)
    case first =>
      have bn1:=oneN_le c.sent d.sent
      have bn2:=oneN_le c.got d.got
      by_cases e:c.got=d.got
      · have eb:(c.got != d.got)=false:=by simp [e]
        have o0:oneN c.got d.got=0:=by simp [oneN,e]
        clear e
        go_wp2_with fail
        go_meet
        exact ⟨by rw [o0];rfl,z_w,z_wp,hB⟩
      · have eb:(c.got != d.got)=true:=by simpa using e
        have o1:oneN c.got d.got=1:=by simp [oneN,e]
        clear e
        go_wp2_with fail
        go_meet
        exact ⟨by rw [o1];refine i64eq ?_;first|omega|(rw [IntWalk.wrap64_in _ (by omega)];omega),z_w,z_wp,hB⟩
    case rest =>
      clear z_w z_wp hB x_w x_wp l_w l_wp
      obtain ⟨rfl,z_w,z_wp,hB⟩:=hcut
      have x_w:=(bO z_w).1
      have x_wp:=(bO z_wp).1
      have l_w:=(bO z_w).2.2
      have l_wp:=(bO z_wp).2.2
      go_upto_if 26 with fail
      go_cut [5] (fun s5 wx=>s5=.int .i64 (((0:Nat)+oneN c.sent d.sent+oneN c.got d.got+oneN c.fin d.fin:Nat):Int)∧hp wx w.heap.size=some (.cells (cvals c (.slice a c.cells.length p) (.slice b c.words.length q)) 27)∧hp wx (w.heap.size+1)=some (.cells (cvals d (.slice a' d.cells.length p') (.slice b' d.words.length q')) 27)∧Below w.heap.size w wx)
      case first =>
        have bn1:=oneN_le c.sent d.sent
        have bn2:=oneN_le c.got d.got
        by_cases e:c.fin=d.fin
        · have eb:(c.fin != d.fin)=false:=by simp [e]
          have o0:oneN c.fin d.fin=0:=by simp [oneN,e]
          clear e
          go_wp2_with fail
          go_meet
          exact ⟨by rw [o0];rfl,z_w,z_wp,hB⟩
        · have eb:(c.fin != d.fin)=true:=by simpa using e
          have o1:oneN c.fin d.fin=1:=by simp [oneN,e]
          clear e
          go_wp2_with fail
          go_meet
          exact ⟨by rw [o1];refine i64eq ?_;first|omega|(rw [IntWalk.wrap64_in _ (by omega)];omega),z_w,z_wp,hB⟩
      case rest =>
        clear z_w z_wp hB x_w x_wp l_w l_wp
        obtain ⟨rfl,z_w,z_wp,hB⟩:=hcut
        have x_w:=(bO z_w).1
        have x_wp:=(bO z_wp).1
        have l_w:=(bO z_w).2.2
        have l_wp:=(bO z_wp).2.2
        obtain ⟨N,hN⟩:∃ N:Nat,N=0+oneN c.sent d.sent+oneN c.got d.got+oneN c.fin d.fin:=⟨_,rfl⟩
        have hN3:N≤3:=by have:=oneN_le c.sent d.sent;have:=oneN_le c.got d.got;have:=oneN_le c.fin d.fin;omega
        rw [← hN]
        have HN:=Lib.hid hN
        clear hN
        go_upto_block 0 with fail
        go_cut [5] (fun s5 wx=>s5=.int .i64 ((N+diffC c.cells d.cells:Nat):Int)∧hp wx w.heap.size=some (.cells (cvals c (.slice a c.cells.length p) (.slice b c.words.length q)) 27)∧hp wx (w.heap.size+1)=some (.cells (cvals d (.slice a' d.cells.length p') (.slice b' d.words.length q')) 27)∧Below w.heap.size w wx)
        case first =>
          have hB0:=hB
          go_wp2_with fail
          go_loopw [5,6] (fun n i wx=>∃ k:Nat,i=.int .i64 k∧k≤c.cells.length∧k≤d.cells.length∧n=.int .i64 ((N+diffC (c.cells.take k) (d.cells.take k):Nat):Int)∧hp wx w.heap.size=some (.cells (cvals c (.slice a c.cells.length p) (.slice b c.words.length q)) 27)∧hp wx (w.heap.size+1)=some (.cells (cvals d (.slice a' d.cells.length p') (.slice b' d.words.length q')) 27)∧Below w.heap.size w wx) (fun _ i _=>c.cells.length - (intOf i).toNat)
          case atStart=>exact ⟨0,rfl,Nat.zero_le _,Nat.zero_le _,by refine i64eq ?_;simp [diffC],z_w,z_wp,hB⟩
          case round =>
            clear z_w z_wp hB x_w x_wp l_w l_wp hB0
            obtain ⟨k,rfl,hk1,hk2,rfl,z_w,z_wp,hB⟩:=hrel
            have x_w:=(bO z_w).1
            have x_wp:=(bO z_wp).1
            have l_w:=(bO z_w).2.2
            have l_wp:=(bO z_wp).2.2
            by_cases hc:k<c.cells.length
            · have hci:(k:Int)<(c.cells.length:Int):=by omega
              have hk0:(0:Int)≤(k:Int):=by omega
              by_cases hd:k<d.cells.length
              · have hdi:(k:Int)<(d.cells.length:Int):=by omega
                have hdt:=diffC_take c.cells d.cells k hc hd
                have hle:=diffC_le (c.cells.take k) (d.cells.take k)
                rw [List.length_take] at hle
                obtain h0|⟨ba,oa,rfl,hba,hca⟩:=H1.out
                · omega
                obtain h0|⟨bb,ob,rfl,hbb,hcb⟩:=H3.out
                · omega
                have c0:=(hB.cell (p:=⟨ba,oa+k*3+0,none⟩) hba).trans (hca k 0 hc (by omega))
                have d0:=(hB.cell (p:=⟨bb,ob+k*3+0,none⟩) hbb).trans (hcb k 0 hd (by omega))
                have c1:=(hB.cell (p:=⟨ba,oa+k*3+1,none⟩) hba).trans (hca k 1 hc (by omega))
                have d1:=(hB.cell (p:=⟨bb,ob+k*3+1,none⟩) hbb).trans (hcb k 1 hd (by omega))
                have c2:=(hB.cell (p:=⟨ba,oa+k*3+2,none⟩) hba).trans (hca k 2 hc (by omega))
                have d2:=(hB.cell (p:=⟨bb,ob+k*3+2,none⟩) hbb).trans (hcb k 2 hd (by omega))
                simp only [cellF,C3.val,Nat.add_zero] at c0 c1 c2 d0 d1 d2
                clear hca hcb
                generalize c.cells.getD k ⟨0,0,0⟩=x at c0 c1 c2 hdt
                generalize d.cells.getD k ⟨0,0,0⟩=y at d0 d1 d2 hdt
                go_upto_if 53 with (go_quiet (fail))
                cases hs:sameC x y with
                | true =>
                  rw [hs] at hdt
                  have hsn:(!sameC x y)=false:=by rw [hs];rfl
                  go_wp2
                  go_roundw
                  case rel=>exact ⟨k+1,by go_num,by omega,by omega,by rw [hdt];rfl,z_w,z_wp,bDN hB _⟩
                  case measure=>simp [intOf];omega
                | false =>
                  rw [hs] at hdt
                  have hsn:(!sameC x y)=true:=by rw [hs];rfl
                  go_wp2
                  go_roundw
                  case rel=>exact ⟨k+1,by go_num,by omega,by omega,by rw [hdt];refine i64eq ?_;first|(rw [IntWalk.wrap64_in _ (by omega)];simp;omega)|(simp;omega),z_w,z_wp,bDN hB _⟩
                  case measure=>simp [intOf];omega
              · have hdi:¬ (k:Int)<(d.cells.length:Int):=by omega
                go_wp2_with fail
                go_meet
                exact ⟨by rw [diffC_end _ _ _ hk1 hk2 (.inr (by omega))];refine i64eq ?_;omega,z_w,z_wp,hB⟩
            · have hci:¬ (k:Int)<(c.cells.length:Int):=by omega
              go_wp2_with fail
              go_meet
              exact ⟨by rw [diffC_end _ _ _ hk1 hk2 (.inl (by omega))];refine i64eq ?_;omega,z_w,z_wp,hB⟩
        case rest =>
          clear z_w z_wp hB x_w x_wp l_w l_wp
          obtain ⟨rfl,z_w,z_wp,hB⟩:=hcut
          have x_w:=(bO z_w).1
          have x_wp:=(bO z_wp).1
          have l_w:=(bO z_w).2.2
          have l_wp:=(bO z_wp).2.2
          obtain ⟨M,hM⟩:∃ M:Nat,M=N+diffC c.cells d.cells:=⟨_,rfl⟩
          have hM3:M≤1048579:=by have:=diffC_le c.cells d.cells;omega
          rw [← hM]
          have HM:=Lib.hid hM
          clear hM
          go_upto_block 2 with fail
          go_cut [5] (fun s5 wx=>s5=.int .i64 ((M+diffI c.words d.words:Nat):Int)∧hp wx w.heap.size=some (.cells (cvals c (.slice a c.cells.length p) (.slice b c.words.length q)) 27)∧hp wx (w.heap.size+1)=some (.cells (cvals d (.slice a' d.cells.length p') (.slice b' d.words.length q')) 27)∧Below w.heap.size w wx)
          case first =>
            have hB0:=hB
            go_wp2_with fail
            go_loopw [5,7] (fun n i wx=>∃ k:Nat,i=.int .i64 k∧k≤c.words.length∧k≤d.words.length∧n=.int .i64 ((M+diffI (c.words.take k) (d.words.take k):Nat):Int)∧hp wx w.heap.size=some (.cells (cvals c (.slice a c.cells.length p) (.slice b c.words.length q)) 27)∧hp wx (w.heap.size+1)=some (.cells (cvals d (.slice a' d.cells.length p') (.slice b' d.words.length q')) 27)∧Below w.heap.size w wx) (fun _ i _=>c.words.length - (intOf i).toNat)
            case atStart=>exact ⟨0,rfl,Nat.zero_le _,Nat.zero_le _,by refine i64eq ?_;simp [diffI],z_w,z_wp,hB⟩
            case round =>
              clear z_w z_wp hB x_w x_wp l_w l_wp hB0
              obtain ⟨k,rfl,hk1,hk2,rfl,z_w,z_wp,hB⟩:=hrel
              have x_w:=(bO z_w).1
              have x_wp:=(bO z_wp).1
              have l_w:=(bO z_w).2.2
              have l_wp:=(bO z_wp).2.2
              by_cases hc:k<c.words.length
              · have hci:(k:Int)<(c.words.length:Int):=by omega
                have hk0:(0:Int)≤(k:Int):=by omega
                by_cases hd:k<d.words.length
                · have hdi:(k:Int)<(d.words.length:Int):=by omega
                  have hdt:=diffI_take c.words d.words k hc hd
                  have hle:=diffI_le (c.words.take k) (d.words.take k)
                  rw [List.length_take] at hle
                  obtain h0|⟨ba,oa,rfl,hba,hca⟩:=H2.out
                  · omega
                  obtain h0|⟨bb,ob,rfl,hbb,hcb⟩:=H4.out
                  · omega
                  have c0:=(hB.cell (p:=⟨ba,oa+k*1+0,none⟩) hba).trans (hca k 0 hc (by omega))
                  have d0:=(hB.cell (p:=⟨bb,ob+k*1+0,none⟩) hbb).trans (hcb k 0 hd (by omega))
                  simp only [intF,Nat.add_zero,Nat.mul_one] at c0 d0
                  clear hca hcb
                  generalize c.words.getD k 0=x at c0 hdt
                  generalize d.words.getD k 0=y at d0 hdt
                  go_upto_if 80 with (go_quiet (fail))
                  cases hs:x == y with
                  | true =>
                    rw [hs] at hdt
                    have hsn:(!x == y)=false:=by rw [hs];rfl
                    go_wp2
                    go_roundw
                    case rel=>exact ⟨k+1,by go_num,by omega,by omega,by rw [hdt];rfl,z_w,z_wp,bDN hB _⟩
                    case measure=>simp [intOf];omega
                  | false =>
                    rw [hs] at hdt
                    have hsn:(!x == y)=true:=by rw [hs];rfl
                    go_wp2
                    go_roundw
                    case rel=>exact ⟨k+1,by go_num,by omega,by omega,by rw [hdt];refine i64eq ?_;first|(rw [IntWalk.wrap64_in _ (by omega)];simp;omega)|(simp;omega),z_w,z_wp,bDN hB _⟩
                    case measure=>simp [intOf];omega
                · have hdi:¬ (k:Int)<(d.words.length:Int):=by omega
                  go_wp2_with fail
                  go_meet
                  exact ⟨by rw [diffI_end _ _ _ hk1 hk2 (.inr (by omega))];refine i64eq ?_;omega,z_w,z_wp,hB⟩
              · have hci:¬ (k:Int)<(c.words.length:Int):=by omega
                go_wp2_with fail
                go_meet
                exact ⟨by rw [diffI_end _ _ _ hk1 hk2 (.inl (by omega))];refine i64eq ?_;omega,z_w,z_wp,hB⟩
          case rest =>
            clear z_w z_wp hB x_w x_wp l_w l_wp
            obtain ⟨rfl,z_w,z_wp,hB⟩:=hcut
            have l_w:=(bO z_w).2.2
            have l_wp:=(bO z_wp).2.2
            go_wp2
            go_ret
            refine ⟨congrArg Ending.returned (i64eq ?_),by exact zB⟩
            have e1:=HM.out
            have e2:=HN.out
            unfold touchedN
            omega
end Go.Proofs.YtkiingmgpobgnaaGreat
set_option linter.unusedSimpArgs false
set_option linter.unusedVariables false
namespace Go.Proofs.YtkiingmgpobgnaaGreat
open Go.RowKit
set_option linter.unusedSimpArgs false
theorem big_any (n cap:Nat) (a:Option Addr) (w:World):Calls Tryz.prog 5 #[.slice a n cap] w fun r w'=>r=.returned (.bool (decide (4096<(n:Int))))∧w=w':=by
  go_enter Tryz.func5,Tryz.ntmps5
  go_wp2
  go_ret
  exact ⟨rfl,rfl⟩
theorem bDNl {w W:World} (h:Below w.heap.size w W) (n:Nat):Below w.heap.size w (W.drewN n):=⟨h.os,h.tape,h.output,h.size,h.block⟩
set_option maxRecDepth 100000 in
set_option maxHeartbeats 400000 in
theorem likeInts_any (l:List Int) (a a':Option Addr) (cap cap':Nat) (w:World) (h:Seg w w.heap.size a l.length 1 (intF l)) (h':Seg w w.heap.size a' l.length 1 (intF l)) (hm:l.length≤maxLen) :
    Calls Tryz.prog 34 #[.slice a l.length cap,.slice a' l.length cap'] w fun r w'=>r=.returned (.bool true)∧Below w.heap.size w w':=by
  unfold maxLen at hm
  have HS:=Lib.hid h
  have HS':=Lib.hid h'
  clear h h'
  go_enter Tryz.func34,Tryz.ntmps34
  go_wp2
  go_loopw [5] (fun i wr=>∃ k:Nat,k≤l.length∧i=.int .i64 k∧Below w.heap.size w wr) (fun i _=>l.length - (intOf i).toNat)
  case atStart=>exact ⟨0,Nat.zero_le _,rfl,Below.refl _ _⟩
  case round =>
    obtain ⟨k,hk,rfl,hB⟩:=hrel
    by_cases hlt:k<l.length
    · obtain h0|⟨b,o,rfl,hb,hc⟩:=HS.out
      · omega
      obtain h0|⟨b',o',rfl,hb',hc'⟩:=HS'.out
      · omega
      have c0:=(hB.cell (p:=⟨b,o+k*1+0,none⟩) hb).trans (hc k 0 hlt (by omega))
      have d0:=(hB.cell (p:=⟨b',o'+k*1+0,none⟩) hb').trans (hc' k 0 hlt (by omega))
      simp only [intF,Nat.add_zero,Nat.mul_one] at c0 d0
      clear hc hc'
      generalize l.getD k 0=x at c0 d0
      have hk0:(0:Int)≤(k:Int):=by omega
      have hk1:(k:Int)<(l.length:Int):=by omega
      go_wp2_with fail
      (try (go_quiet (fail)))
      go_wp2
      go_roundw
      case rel=>exact ⟨k+1,by omega,by go_num,by first|exact hB|exact bDNl hB _⟩
      case measure=>simp [intOf];omega
    · have:k=l.length:=by omega
      subst this
      go_wp2
      go_ret
      exact ⟨rfl,hB⟩
set_option maxRecDepth 100000 in
set_option maxHeartbeats 400000 in
theorem likeCells_any (cs:List C3) (a a':Option Addr) (cap cap':Nat) (w:World) (h:Seg w w.heap.size a cs.length 3 (cellF cs)) (h':Seg w w.heap.size a' cs.length 3 (cellF cs)) (hm:cs.length≤maxLen) :
    Calls Tryz.prog 33 #[.slice a cs.length cap,.slice a' cs.length cap'] w fun r w'=>r=.returned (.bool true)∧Below w.heap.size w w':=by
  unfold maxLen at hm
  have HS:=Lib.hid h
  have HS':=Lib.hid h'
  clear h h'
  go_enter Tryz.func33,Tryz.ntmps33
  go_wp2
  go_loopw [5] (fun i wr=>∃ k:Nat,k≤cs.length∧i=.int .i64 k∧Below w.heap.size w wr) (fun i _=>cs.length - (intOf i).toNat)
  case atStart=>exact ⟨0,Nat.zero_le _,rfl,Below.refl _ _⟩
  case round =>
    obtain ⟨k,hk,rfl,hB⟩:=hrel
    by_cases hlt:k<cs.length
    · obtain h0|⟨b,o,rfl,hb,hc⟩:=HS.out
      · omega
      obtain h0|⟨b',o',rfl,hb',hc'⟩:=HS'.out
      · omega
      have c0:=(hB.cell (p:=⟨b,o+k*3+0,none⟩) hb).trans (hc k 0 hlt (by omega))
      have c1:=(hB.cell (p:=⟨b,o+k*3+1,none⟩) hb).trans (hc k 1 hlt (by omega))
      have c2:=(hB.cell (p:=⟨b,o+k*3+2,none⟩) hb).trans (hc k 2 hlt (by omega))
      have d0:=(hB.cell (p:=⟨b',o'+k*3+0,none⟩) hb').trans (hc' k 0 hlt (by omega))
      have d1:=(hB.cell (p:=⟨b',o'+k*3+1,none⟩) hb').trans (hc' k 1 hlt (by omega))
      have d2:=(hB.cell (p:=⟨b',o'+k*3+2,none⟩) hb').trans (hc' k 2 hlt (by omega))
      simp only [cellF,C3.val,Nat.add_zero] at c0 c1 c2 d0 d1 d2
      clear hc hc'
      generalize hcg:cs.getD k ⟨0,0,0⟩=c at c0 c1 c2 d0 d1 d2
      have HC:=Lib.hid hcg
      clear hcg
      have hk0:(0:Int)≤(k:Int):=by omega
      have hk1:(k:Int)<(cs.length:Int):=by omega
      go_wp2_with fail
      (try (go_quiet (fail)))
      go_wp2
      go_roundw
      case rel=>exact ⟨k+1,by omega,by go_num,by first|exact hB|exact bDNl hB _⟩
      case measure=>simp [intOf];omega
    · have:k=cs.length:=by omega
      subst this
      go_wp2
      go_ret
      exact ⟨rfl,hB⟩
set_option maxRecDepth 100000 in
set_option maxHeartbeats 1000000 in
theorem likeChan_any (c:Ch) (a b a' b':Option Addr) (p q p' q':Nat) (w:World) (h1:Seg w w.heap.size a c.cells.length 3 (cellF c.cells)) (h2:Seg w w.heap.size b c.words.length 1 (intF c.words)) (h3:Seg w w.heap.size a' c.cells.length 3 (cellF c.cells)) (h4:Seg w w.heap.size b' c.words.length 1 (intF c.words)) (m1:c.cells.length≤maxLen) (m2:c.words.length≤maxLen) :
    Calls Tryz.prog 9 #[.agg #[.int .i64 c.cap,.int .i64 c.sent,.int .i64 c.got,.int .i64 c.fin,.slice a c.cells.length p,.slice b c.words.length q],.agg #[.int .i64 c.cap,.int .i64 c.sent,.int .i64 c.got,.int .i64 c.fin,.slice a' c.cells.length p',.slice b' c.words.length q']] w fun r w'=>r=.returned (.bool true)∧Below w.heap.size w w':=by
  have H1:=Lib.hid h1
  have H2:=Lib.hid h2
  have H3:=Lib.hid h3
  have H4:=Lib.hid h4
  have M1:=Lib.hid m1
  have M2:=Lib.hid m2
  clear h1 h2 h3 h4 m1 m2
  go_enter Tryz.func9,Tryz.ntmps9
  go_wp2_with fail;refine bHit w (by exact zB) fun bb=>?_;refine (likeCells_any c.cells a a' p p' _ ((H1.out.below bb).more bb.size) ((H3.out.below bb).more bb.size) M1.out).mono ?_;rintro _ w1 ⟨rfl,hbw1⟩;have hCw1:Below w.heap.size w w1:=bT bb hbw1;have hsw1:=hbw1.size;(try simp at hsw1);have zz:=And.intro (fun o=>hbw1.cell (p:=⟨w.heap.size+1,o,none⟩) (by (try simp) <;> omega)) <| And.intro (fun o=>hbw1.frozen (p:=⟨w.heap.size+1,o,none⟩) (by (try simp) <;> omega)) <| And.intro (fun o=>hbw1.cell (p:=⟨w.heap.size,o,none⟩) (by (try simp) <;> omega)) <| fun o=>hbw1.frozen (p:=⟨w.heap.size,o,none⟩) (by (try simp) <;> omega);(try simp [go_sem] at zz);(try clear x_wp f_wp);(try clear x_w f_w);obtain ⟨x_wp,f_wp,x_w,f_w⟩:=zz;(try clear l_wp);have l_wp:w.heap.size+1<w1.heap.size:=(by omega);(try clear l_w);have l_w:w.heap.size<w1.heap.size:=(by omega);clear hbw1 bb
  go_wp2_with fail;refine bHit w (by exact zB) fun bb=>?_;refine (likeInts_any c.words b b' q q' _ ((H2.out.below bb).more bb.size) ((H4.out.below bb).more bb.size) M2.out).mono ?_;rintro _ w2 ⟨rfl,hbw2⟩;have hCw2:Below w.heap.size w w2:=bT bb hbw2;have hsw2:=hbw2.size;(try simp at hsw2);have zz:=And.intro (fun o=>hbw2.cell (p:=⟨w.heap.size+1,o,none⟩) (by (try simp) <;> omega)) <| And.intro (fun o=>hbw2.frozen (p:=⟨w.heap.size+1,o,none⟩) (by (try simp) <;> omega)) <| And.intro (fun o=>hbw2.cell (p:=⟨w.heap.size,o,none⟩) (by (try simp) <;> omega)) <| fun o=>hbw2.frozen (p:=⟨w.heap.size,o,none⟩) (by (try simp) <;> omega);(first|simp [go_sem,x_wp,f_wp,x_w,f_w,l_w,l_wp] at zz|simp [go_sem,x_wp,x_w,l_w,l_wp] at zz|simp [go_sem] at zz|skip);(try clear x_wp f_wp);(try clear x_w f_w);obtain ⟨x_wp,f_wp,x_w,f_w⟩:=zz;(try clear l_wp);have l_wp:w.heap.size+1<w2.heap.size:=(by omega);(try clear l_w);have l_w:w.heap.size<w2.heap.size:=(by omega);clear hbw2 bb
  go_wp2
  go_ret
  exact ⟨rfl,by exact zB⟩
end Go.Proofs.YtkiingmgpobgnaaGreat
set_option linter.unusedSimpArgs false
set_option linter.unusedVariables false
namespace Go.Proofs.YtkiingmgpobgnaaGreat
open Go.RowKit
def eqHa (a b:Ha):Bool:=a.pos == b.pos && ((a.code == b.code && a.elem == b.elem) && (a.cell == b.cell && (a.seen == b.seen && (a.wait == b.wait && (a.fin == b.fin && (a.come == b.come && (a.grow == b.grow && (a.mine == b.mine && (a.nxt == b.nxt && (a.beg == b.beg && (a.reply == b.reply && a.out == b.out)))))))))))
theorem eqHa_iff (a b:Ha):eqHa a b=true↔a=b:=by
  obtain ⟨a1,a2,a3,a4,a5,a6,a7,a8,a9,a10,a11,a12,a13,a14⟩:=a
  obtain ⟨b1,b2,b3,b4,b5,b6,b7,b8,b9,b10,b11,b12,b13,b14⟩:=b
  simp [eqHa,and_assoc]
theorem eqHa_self (a:Ha):eqHa a a=true:=(eqHa_iff a a).2 rfl
theorem eqCallV (a b c d:Int) (n:Nat) (w:World):(Op.equalIn (n+1+1) 29 (.agg #[.int .i64 a,.int .i64 b]) (.agg #[.int .i64 c,.int .i64 d])).run Tryz.prog w=.ok (a == c && b == d) w:=by
  have u3:=Tryz.underlying2
  have a3:=Tryz.isAgg2
  have z3:=Tryz.sizeOf2
  have hS:Tryz.prog.underlying 29=some (.struct (Tryz.prog.fieldsOf 29)):=by kernel_rfl
  rw [run_equalIn_agg w (n+1) 29 _ _ hS (by kernel_rfl)]
  simp only [Program.fieldsOf,Tryz.underlying29]
  go_simp
  by_cases h1:a=c <;> by_cases h2:b=d <;> simp [h1,h2]
theorem eqHandV (x y:Ha) (w:World):(Op.equalIn 10000 31 (.agg (hvals x)) (.agg (hvals y))).run Tryz.prog w=.ok (eqHa x y) w:=by
  have u3:=Tryz.underlying2
  have a3:=Tryz.isAgg2
  have z3:=Tryz.sizeOf2
  have a4:=Tryz.isAgg29
  have z4:=Tryz.sizeOf29
  have hS:Tryz.prog.underlying 31=some (.struct (Tryz.prog.fieldsOf 31)):=by kernel_rfl
  rw [show (10000:Nat)=9998+1+1 from rfl,run_equalIn_agg w (9998+1) 31 _ _ hS (by kernel_rfl)]
  simp only [Program.fieldsOf,Tryz.underlying31]
  simp [hvals,Op.eqFields,go_sem,eqCallV,eqHa, *]
  by_cases h0:x.pos=y.pos <;> simp [h0]
  by_cases h1:x.code=y.code <;> simp [h1]
  by_cases h2:x.elem=y.elem <;> simp [h2]
  by_cases h3:x.cell=y.cell <;> simp [h3]
  by_cases h4:x.seen=y.seen <;> simp [h4]
  by_cases h5:x.wait=y.wait <;> simp [h5]
  by_cases h6:x.fin=y.fin <;> simp [h6]
  by_cases h7:x.come=y.come <;> simp [h7]
  by_cases h8:x.grow=y.grow <;> simp [h8]
  by_cases h9:x.mine=y.mine <;> simp [h9]
  by_cases h10:x.nxt=y.nxt <;> simp [h10]
  by_cases h11:x.beg=y.beg <;> simp [h11]
  by_cases h12:x.reply=y.reply <;> simp [h12]
  by_cases h13:x.out=y.out <;> simp [h13]
end Go.Proofs.YtkiingmgpobgnaaGreat
set_option linter.unusedSimpArgs false
set_option linter.unusedVariables false
namespace Go.Proofs.YtkiingmgpobgnaaGreat
open Go.RowKit
set_option maxHeartbeats 400000 in
theorem inRange_any (n m:Int) (w:World):Calls Tryz.prog 35 #[.int .i64 n,.int .i64 m] w fun e w'=>e=.returned (.bool (inB n 0 m))∧w=w':=by
  go_enter Tryz.func35,Tryz.ntmps35
  go_wp2
  all_goals go_ret
  · exact ⟨ret_bool (inB_lo ‹_›),rfl⟩
  · exact ⟨ret_bool (inB_no (.inl ‹_›)).symm,rfl⟩
def Named (n:Int) (e:Ending):Prop:=∃ s:ByteArray,e=.returned (.string s)∧s.toList.isEmpty=!(inB n 0 10)
theorem named_yes {n:Int} (s:ByteArray) (hs:s.data.size≠0) (h1:0≤n) (h2:n≤10):Named n (.returned (.string s)):=⟨_,rfl,by
  obtain ⟨⟨l⟩⟩:=s
  rw [inB_yes h1 h2]
  cases l with
  | nil=>simp at hs
  | cons a l=>simp⟩
theorem named_no {n:Int} (h:n<0∨10<n):Named n (.returned (.string ⟨#[]⟩)):=⟨_,rfl,by rw [inB_no h];simp⟩
set_option maxHeartbeats 400000 in
theorem string_any (n:Int) (w:World):Calls Tryz.prog 103 #[.int .i64 n] w fun e w'=>Named n e∧w=w':=by
  by_cases h:0≤n∧n≤10
  · have hn:n=0∨n=1∨n=2∨n=3∨n=4∨n=5∨n=6∨n=7∨n=8∨n=9∨n=10:=by omega
    clear h
    rcases hn with rfl|rfl|rfl|rfl|rfl|rfl|rfl|rfl|rfl|rfl|rfl
    all_goals
      go_enter Tryz.func103,Tryz.ntmps103
      go_wp2
      go_ret
      exact ⟨named_yes _ (by decide) (by omega) (by omega),rfl⟩
  · have h0:(n == 0)=false:=by simp;omega
    have h1:(n == 1)=false:=by simp;omega
    have h2:(n == 2)=false:=by simp;omega
    have h3:(n == 3)=false:=by simp;omega
    have h4:(n == 4)=false:=by simp;omega
    have h5:(n == 5)=false:=by simp;omega
    have h6:(n == 6)=false:=by simp;omega
    have h7:(n == 7)=false:=by simp;omega
    have h8:(n == 8)=false:=by simp;omega
    have h9:(n == 9)=false:=by simp;omega
    have h10:(n == 10)=false:=by simp;omega
    have H:=Lib.hid h
    clear h
    go_enter Tryz.func103,Tryz.ntmps103
    go_wp2
    go_ret
    exact ⟨named_no (by have:=H.out;omega),rfl⟩
set_option maxHeartbeats 400000 in
theorem cellOk_any (s e t:Int) (w:World):Calls Tryz.prog 68 #[.agg #[.int .i64 s,.int .i64 e,.int .i64 t]] w fun r w'=>r=.returned (.bool (cellB s e t))∧Below w.heap.size w w':=by
  go_enter Tryz.func68,Tryz.ntmps68
  go_wp2_with (first|(go_at_call 103;refine (string_any _ _).mono ?_;rintro r1 w1 ⟨⟨s1,rfl,hs⟩,rfl⟩)|(go_at_call 35;refine (inRange_any _ _ _).mono ?_;rintro _ _ ⟨rfl,rfl⟩))
  all_goals go_ret
  all_goals refine ⟨ret_bool ?_,by exact zB⟩
  · exact cellB_3 ‹_› ‹_›
  · exact cellB_2 ‹_›
  · exact cellB_1 ‹_›
end Go.Proofs.YtkiingmgpobgnaaGreat
set_option linter.unusedSimpArgs false
set_option linter.unusedVariables false
namespace Go.Proofs.YtkiingmgpobgnaaGreat
open Go.RowKit
def mostE (k:Int):Int:=if k == 1 then 999 else (if k == 2 then 0 else -1)
theorem callOk_most (k e:Int):inB e 0 (mostE k)=callOk k e:=by
  unfold mostE callOk
  by_cases h1:k=1
  · subst h1;simp
  · by_cases h2:k=2
    · subst h2
      simp [inB]
      rw [Bool.eq_iff_iff];simp;omega
    · have:(if k == 1 then (999:Int) else if k == 2 then 0 else -1)=-1:=by simp [h1,h2]
      rw [this,inB_no (by omega)]
      simp [h1,h2]
set_option maxHeartbeats 400000 in
theorem mostElem_any (k:Int) (w:World):Calls Tryz.prog 104 #[.int .i64 k] w fun r w'=>r=.returned (.int .i64 (mostE k))∧w=w':=by
  go_enter Tryz.func104,Tryz.ntmps104
  go_wp2
  all_goals go_ret
  all_goals exact ⟨ret_i64 (by simp_all [mostE]),rfl⟩
set_option maxHeartbeats 400000 in
theorem coded_any (k e:Int) (w:World):Calls Tryz.prog 70 #[.agg #[.int .i64 k,.int .i64 e]] w fun r w'=>r=.returned (.agg #[.int .i64 k,.int .i64 e])∧Below w.heap.size w w':=by
  go_enter Tryz.func70,Tryz.ntmps70
  go_wp2
  exact bodyPost_ret (v:=.agg #[.int .i64 k,.int .i64 e]) (by simp [results,Tryz.results70,go_sem, *]) rfl ⟨rfl,by exact zB⟩
set_option maxHeartbeats 400000 in
theorem isRight_any (k e:Int) (w:World):Calls Tryz.prog 71 #[.agg #[.int .i64 k,.int .i64 e]] w fun r w'=>r=.returned (.bool (callOk k e))∧Below w.heap.size w w':=by
  go_enter Tryz.func71,Tryz.ntmps71
  go_wp2_with fail
  go_region_with (first|(go_at_call 104;refine (mostElem_any _ _).mono ?_;rintro _ _ ⟨rfl,rfl⟩)|(go_at_call 35;refine (inRange_any _ _ _).mono ?_;rintro _ _ ⟨rfl,rfl⟩))
  all_goals go_wp2
  all_goals go_ret
  all_goals exact ⟨ret_bool (callOk_most k e),by exact zB⟩
set_option maxHeartbeats 400000 in
theorem callOk_any (k e:Int) (w:World):Calls Tryz.prog 40 #[.agg #[.int .i64 k,.int .i64 e]] w fun r w'=>r=.returned (.bool (callOk k e))∧Below w.heap.size w w':=by
  go_enter Tryz.func40,Tryz.ntmps40
  go_wp2_with fail;refine (coded_any _ _ _).mono ?_;rintro _ w1 ⟨rfl,hbw1⟩;have hBw1:Below w.heap.size w w1:=bT (by exact zB) hbw1;have hsw1:=hbw1.size;(try (simp at hsw1));have:=fun o=>hbw1.cell (p:=⟨w.heap.size,o,none⟩) (by ((try simp);(try omega)));have:=fun o=>hbw1.frozen (p:=⟨w.heap.size,o,none⟩) (by ((try simp);(try omega)));have:w.heap.size<w1.heap.size:=(by omega);have:w.heap.size≤w1.heap.size:=(by omega);have:w.heap.size≤w1.heap.size+1:=(by omega)
  go_wp2_with fail;refine (isRight_any _ _ _).mono ?_;rintro _ w2 ⟨rfl,hbw2⟩;have hBw2:Below w.heap.size w w2:=bT (by exact zB) hbw2;have hsw2:=hbw2.size;(try (simp at hsw2));have:=fun o=>hbw2.cell (p:=⟨w.heap.size,o,none⟩) (by ((try simp);(try omega)));have:=fun o=>hbw2.frozen (p:=⟨w.heap.size,o,none⟩) (by ((try simp);(try omega)));have:w.heap.size<w2.heap.size:=(by omega);have:w.heap.size≤w2.heap.size:=(by omega);have:w.heap.size≤w2.heap.size+1:=(by omega)
  go_wp2
  go_ret
  exact ⟨rfl,by exact zB⟩
end Go.Proofs.YtkiingmgpobgnaaGreat
set_option linter.unusedSimpArgs false
set_option linter.unusedVariables false
namespace Go.Proofs.YtkiingmgpobgnaaGreat
open Go.RowKit
attribute [local go_sem ↓] zeroHand toLHand toVHand storeHand storeHandC
attribute [local go_sem ↓] eqHandV
def near (n m:Int):Int:=if (if n<0 then 0 else n)≤m then (if n<0 then 0 else n) else m
theorem near_eq {n m:Int} (hm:0≤m):(n == near n m)=inB n 0 m:=by
  rw [Bool.eq_iff_iff]
  simp only [near,inB,beq_iff_eq,Bool.and_eq_true,decide_eq_true_eq]
  repeat' split
  all_goals omega
def boundH (h:Ha):Ha:=⟨near h.pos 25,if h.pos == 0 then 0 else h.code,if h.pos == 0 then 0 else h.elem,near h.cell 39,near h.seen 10,near h.wait 80,near h.fin 40,near h.come 40,near h.grow 39,near h.mine 80,near h.nxt 2,near h.beg 20000,near h.reply 4,near h.out 999⟩
theorem bound_ok (h:Ha):(eqHa h (boundH h) && (h.pos == 0 || callOk h.code h.elem))=handOk h:=by
  simp only [eqHa,boundH,near_eq (show (0:Int)≤25 by decide),near_eq (show (0:Int)≤39 by decide),near_eq (show (0:Int)≤10 by decide),near_eq (show (0:Int)≤80 by decide),near_eq (show (0:Int)≤40 by decide),near_eq (show (0:Int)≤2 by decide),near_eq (show (0:Int)≤20000 by decide),near_eq (show (0:Int)≤4 by decide),near_eq (show (0:Int)≤999 by decide)]
  have e:((h.code == if h.pos == 0 then 0 else h.code) && (h.elem == if h.pos == 0 then 0 else h.elem) && (h.pos == 0 || callOk h.code h.elem))=(if h.pos == 0 then noCall h.code h.elem else callOk h.code h.elem):=by
    by_cases h0:h.pos=0
    · simp [h0,noCall]
    · simp [h0]
  unfold handOk handA handB handC
  rw [← e]
  generalize inB h.pos 0 25=b1
  generalize (h.code == if h.pos == 0 then 0 else h.code)=b2
  generalize (h.elem == if h.pos == 0 then 0 else h.elem)=b3
  generalize inB h.cell 0 39=b4
  generalize inB h.seen 0 10=b5
  generalize inB h.wait 0 80=b6
  generalize inB h.fin 0 40=b7
  generalize inB h.come 0 40=b8
  generalize inB h.grow 0 39=b9
  generalize inB h.mine 0 80=b10
  generalize inB h.nxt 0 2=b11
  generalize inB h.beg 0 20000=b12
  generalize inB h.reply 0 4=b13
  generalize inB h.out 0 999=b14
  generalize (h.pos == 0 || callOk h.code h.elem)=b15
  simp only [Bool.and_assoc]
  cases b1 <;> cases b2 <;> cases b3 <;> cases b15 <;> (try simp) <;> cases b4 <;> cases b9 <;> cases b5 <;> cases b6 <;> cases b10 <;> simp
theorem nearest_any (n m:Int) (w:World):Calls Tryz.prog 69 #[.int .i64 n,.int .i64 m] w fun r w'=>r=.returned (.int .i64 (near n m))∧w=w':=by
  go_enter Tryz.func69,Tryz.ntmps69
  go_wp2
  all_goals go_ret
  all_goals exact ⟨ret_i64 (by (try unfold near);(repeat' split) <;> omega),rfl⟩
theorem nearStill (n m:Int) (w:World):Calls Tryz.prog 69 #[.int .i64 n,.int .i64 m] w fun r w'=>r=.returned (.int .i64 (near n m))∧w'=w :=
  (nearest_any n m w).mono fun _ _ h=>⟨h.1,h.2.symm⟩
set_option maxRecDepth 100000 in
set_option maxHeartbeats 2000000 in
theorem bounded_any (h:Ha) (w:World):Calls Tryz.prog 39 #[.agg (hvals h)] w fun r w'=>r=.returned (.agg (hvals (boundH h)))∧Below w.heap.size w w':=by
  by_cases h0:h.pos=0
  · have e0:(h.pos == 0)=true:=by simpa using h0
    clear h0
    have eb:boundH h=⟨near h.pos 25,0,0,near h.cell 39,near h.seen 10,near h.wait 80,near h.fin 40,near h.come 40,near h.grow 39,near h.mine 80,near h.nxt 2,near h.beg 20000,near h.reply 4,near h.out 999⟩:=by simp [boundH,e0]
    rw [eb]
    go_enter Tryz.func39,Tryz.ntmps39
    go_wp2
    refine wp_region_still_tail 38 (by kernel_rfl) (by kernel_rfl) ?_
    simp only [List.take_succ_cons,List.take_zero,List.drop_succ_cons,List.drop_zero]
    change wpStill _ _ (World.drew _) _ _ _
    repeat (first|still_step|still_call (nearStill _ _ _))
    refine wpStill_nil ?_
    change wpList _ _ _ _ _ (World.drew _)
    go_wp2
    refine bodyPost_ret (res_c Tryz.results39 rfl (ldHand ⟨near h.pos 25,0,0,near h.cell 39,near h.seen 10,near h.wait 80,near h.fin 40,near h.come 40,near h.grow 39,near h.mine 80,near h.nxt 2,near h.beg 20000,near h.reply 4,near h.out 999⟩ (by simp [go_sem] <;> rfl))) rfl ⟨rfl,by exact zB⟩
  · have e0:(h.pos == 0)=false:=by simpa using h0
    clear h0
    have eb:boundH h=⟨near h.pos 25,h.code,h.elem,near h.cell 39,near h.seen 10,near h.wait 80,near h.fin 40,near h.come 40,near h.grow 39,near h.mine 80,near h.nxt 2,near h.beg 20000,near h.reply 4,near h.out 999⟩:=by simp [boundH,e0]
    rw [eb]
    go_enter Tryz.func39,Tryz.ntmps39
    go_wp2
    refine wp_region_still_tail 38 (by kernel_rfl) (by kernel_rfl) ?_
    simp only [List.take_succ_cons,List.take_zero,List.drop_succ_cons,List.drop_zero]
    change wpStill _ _ (World.drew _) _ _ _
    repeat (first|still_step|still_call (nearStill _ _ _))
    refine wpStill_nil ?_
    change wpList _ _ _ _ _ (World.drew _)
    go_wp2
    refine bodyPost_ret (res_c Tryz.results39 rfl (ldHand ⟨near h.pos 25,h.code,h.elem,near h.cell 39,near h.seen 10,near h.wait 80,near h.fin 40,near h.come 40,near h.grow 39,near h.mine 80,near h.nxt 2,near h.beg 20000,near h.reply 4,near h.out 999⟩ (by simp [go_sem] <;> rfl))) rfl ⟨rfl,by exact zB⟩
end Go.Proofs.YtkiingmgpobgnaaGreat
set_option linter.unusedSimpArgs false
set_option linter.unusedVariables false
namespace Go.Proofs.YtkiingmgpobgnaaGreat
open Go.RowKit
attribute [local go_sem ↓] zeroHand toLHand toVHand storeHand storeHandC
attribute [local go_sem ↓] eqHandV
set_option maxRecDepth 100000 in
set_option maxHeartbeats 2000000 in
theorem handOk_any (h:Ha) (w:World):Calls Tryz.prog 11 #[.agg (hvals h)] w fun r w'=>r=.returned (.bool (handOk h))∧Below w.heap.size w w':=by
  have key:=bound_ok h
  have HK:=Lib.hid key
  clear key
  by_cases he:eqHa h (boundH h)=true
  · by_cases h0:h.pos=0
    · have e0:(h.pos == 0)=true:=by simpa using h0
      clear h0
      go_enter Tryz.func11,Tryz.ntmps11
      go_wp2_with fail
      refine wp_region_held_drew (S:=fun w'=>hp w' w.heap.size=some (.cells (hvals h) 31)∧(∀ o,w'.cell? ⟨w.heap.size,o,none⟩=(hvals h)[o]?)) (by kernel_rfl) (by simp [*,go_sem]) (fun hS0=>?_)
      refine wpAnyH_take (i:=0) (oi:=⟨some 3,_,_,_,_,_⟩) (v:=?_) rfl (by kernel_rfl) (by kernel_rfl) (by kernel_rfl) (fun _ _ _ h=>h) (Or.inl ⟨by rfl,?_⟩) (by assumption) ?_;rotate_left;(focus (intro w' hSw;(try dsimp only at hSw);go_simp;(try with_reducible rfl)));(try rotate_left);(try simp only [Act.put,List.setIfInBounds_toArray,List.set_cons_zero,List.set_cons_succ])
      refine wpAnyH_take (i:=1) (oi:=⟨some 4,_,_,_,_,_⟩) (v:=?_) rfl (by kernel_rfl) (by kernel_rfl) (by kernel_rfl) (fun _ _ _ h=>h) (Or.inl ⟨by rfl,?_⟩) (by assumption) ?_;rotate_left;(focus (intro w' hSw;(try dsimp only at hSw);go_simp;(try with_reducible rfl)));(try rotate_left);(try simp only [Act.put,List.setIfInBounds_toArray,List.set_cons_zero,List.set_cons_succ])
      refine wpAnyH_ready (rs:=[2]) (by kernel_rfl) (by simp) ?_
      refine AllReadyH.cons (o:=⟨some 5,_,_,_,_,_⟩) rfl (fun K hK=>?_) AllReadyH.nil
      go_simp
      (go_at_call 39;refine bHit w (by exact zB) fun bb=>?_;refine (bounded_any h _).mono ?_;rintro _ w1 ⟨rfl,hbw1⟩;have hCw1:Below w.heap.size w w1:=bT bb hbw1;have hsw1:=hbw1.size;(try simp at hsw1);have zz:=hQ hbw1 (b:=w.heap.size);(try simp [go_sem] at zz);(try clear z_w x_w f_w l_w);have z_w:=zz;clear zz;obtain ⟨x_w,f_w,l_w⟩:=bO z_w;clear hbw1 bb)
      refine hK.out _ _ ⟨z_w,x_w⟩ (fun hS1=>?_)
      clear hK
      (try simp only [Act.put,List.setIfInBounds_toArray,List.set_cons_zero,List.set_cons_succ])
      refine wpAnyH_take (i:=3) (oi:=⟨some 6,_,_,_,_,_⟩) (v:=?_) rfl (by kernel_rfl) (by kernel_rfl) (by kernel_rfl) (fun _ _ _ h=>h) (Or.inl ⟨by rfl,?_⟩) (by assumption) ?_;rotate_left;(focus (intro w' hSw;(try dsimp only at hSw);go_simp;(try with_reducible rfl)));(try rotate_left);(try simp only [Act.put,List.setIfInBounds_toArray,List.set_cons_zero,List.set_cons_succ])
      refine wpAnyH_take (i:=4) (oi:=⟨some 7,_,_,_,_,_⟩) (v:=?_) rfl (by kernel_rfl) (by kernel_rfl) (by kernel_rfl) (fun _ _ _ h=>h) (Or.inl ⟨by rfl,?_⟩) (by assumption) ?_;rotate_left;(focus (intro w' hSw;(try dsimp only at hSw);go_simp;(try with_reducible rfl)));(try rotate_left);(try simp only [Act.put,List.setIfInBounds_toArray,List.set_cons_zero,List.set_cons_succ])
      refine wpAnyH_take (i:=5) (oi:=⟨some 8,_,_,_,_,_⟩) (v:=?_) rfl (by kernel_rfl) (by kernel_rfl) (by kernel_rfl) (fun _ _ _ h=>h) (Or.inl ⟨by rfl,?_⟩) (by assumption) ?_;rotate_left;(focus (intro w' hSw;(try dsimp only at hSw);go_simp;(try with_reducible rfl)));(try rotate_left);(try simp only [Act.put,List.setIfInBounds_toArray,List.set_cons_zero,List.set_cons_succ])
      refine wpAnyH_take (i:=6) (oi:=⟨some 9,_,_,_,_,_⟩) (v:=?_) rfl (by kernel_rfl) (by kernel_rfl) (by kernel_rfl) (fun _ _ _ h=>h) (Or.inl ⟨by rfl,?_⟩) (by assumption) ?_;rotate_left;(focus (intro w' hSw;(try dsimp only at hSw);go_simp;(try with_reducible rfl)));(try rotate_left);(try simp only [Act.put,List.setIfInBounds_toArray,List.set_cons_zero,List.set_cons_succ])
      refine wpAnyH_take (i:=7) (oi:=⟨some 10,_,_,_,_,_⟩) (v:=?_) rfl (by kernel_rfl) (by kernel_rfl) (by kernel_rfl) (fun _ _ _ h=>h) (Or.inl ⟨by rfl,?_⟩) (by assumption) ?_;rotate_left;(focus (intro w' hSw;(try dsimp only at hSw);go_simp;(try with_reducible rfl)));(try rotate_left);(try simp only [Act.put,List.setIfInBounds_toArray,List.set_cons_zero,List.set_cons_succ])
      refine wpAnyH_take (i:=8) (oi:=⟨some 11,_,_,_,_,_⟩) (v:=?_) rfl (by kernel_rfl) (by kernel_rfl) (by kernel_rfl) (fun _ _ _ h=>h) (Or.inl ⟨by rfl,?_⟩) (by assumption) ?_;rotate_left;(focus (intro w' hSw;(try dsimp only at hSw);go_simp;(try with_reducible rfl)));(try rotate_left);(try simp only [Act.put,List.setIfInBounds_toArray,List.set_cons_zero,List.set_cons_succ])
      refine wpAnyH_take (i:=9) (oi:=⟨some 12,_,_,_,_,_⟩) (v:=undef) rfl (by kernel_rfl) (by kernel_rfl) (by kernel_rfl) (fun _ _ _ h=>h) (Or.inr ⟨by rfl,rfl⟩) (by assumption) ?_;(try simp only [Act.put,List.setIfInBounds_toArray,List.set_cons_zero,List.set_cons_succ])
      refine wpAnyH_take (i:=10) (oi:=⟨some 13,_,_,_,_,_⟩) (v:=undef) rfl (by kernel_rfl) (by kernel_rfl) (by kernel_rfl) (fun _ _ _ h=>h) (Or.inr ⟨by rfl,rfl⟩) (by assumption) ?_;(try simp only [Act.put,List.setIfInBounds_toArray,List.set_cons_zero,List.set_cons_succ])
      refine wpAnyH_take (i:=11) (oi:=⟨some 14,_,_,_,_,_⟩) (v:=undef) rfl (by kernel_rfl) (by kernel_rfl) (by kernel_rfl) (fun _ _ _ h=>h) (Or.inr ⟨by rfl,rfl⟩) (by assumption) ?_;(try simp only [Act.put,List.setIfInBounds_toArray,List.set_cons_zero,List.set_cons_succ])
      refine wpAnyH_take (i:=12) (oi:=⟨some 15,_,_,_,_,_⟩) (v:=?_) rfl (by kernel_rfl) (by kernel_rfl) (by kernel_rfl) (fun _ _ _ h=>h) (Or.inl ⟨by rfl,?_⟩) (by assumption) ?_;rotate_left;(focus (intro w' hSw;(try dsimp only at hSw);go_simp;(try with_reducible rfl)));(try rotate_left);(try simp only [Act.put,List.setIfInBounds_toArray,List.set_cons_zero,List.set_cons_succ])
      refine wpAnyH_take (i:=13) (oi:=⟨some 16,_,_,_,_,_⟩) (v:=?_) rfl (by kernel_rfl) (by kernel_rfl) (by kernel_rfl) (fun _ _ _ h=>h) (Or.inl ⟨by rfl,?_⟩) (by assumption) ?_;rotate_left;(focus (intro w' hSw;(try dsimp only at hSw);go_simp;(try with_reducible rfl)));(try rotate_left);(try simp only [Act.put,List.setIfInBounds_toArray,List.set_cons_zero,List.set_cons_succ])
      refine wpAnyH_take (i:=14) (oi:=⟨some 2,_,_,_,_,_⟩) (v:=?_) rfl (by kernel_rfl) (by kernel_rfl) (by kernel_rfl) (fun _ _ _ h=>h) (Or.inl ⟨by rfl,?_⟩) (by assumption) ?_;rotate_left;(focus (intro w' hSw;(try dsimp only at hSw);go_simp;(try with_reducible rfl)));(try rotate_left);(try simp only [Act.put,List.setIfInBounds_toArray,List.set_cons_zero,List.set_cons_succ])
      refine wpAnyH_done (by kernel_rfl) ?_ _
      go_wp2
      go_ret
      exact ⟨ret_bool (by rw [← HK.out];simp [he,e0]),by exact zB⟩
    · have e0:(h.pos == 0)=false:=by simpa using h0
      clear h0
      go_enter Tryz.func11,Tryz.ntmps11
      go_wp2_with fail
      refine wp_region_held_drew (S:=fun w'=>hp w' w.heap.size=some (.cells (hvals h) 31)∧(∀ o,w'.cell? ⟨w.heap.size,o,none⟩=(hvals h)[o]?)) (by kernel_rfl) (by simp [*,go_sem]) (fun hS0=>?_)
      refine wpAnyH_take (i:=0) (oi:=⟨some 3,_,_,_,_,_⟩) (v:=?_) rfl (by kernel_rfl) (by kernel_rfl) (by kernel_rfl) (fun _ _ _ h=>h) (Or.inl ⟨by rfl,?_⟩) (by assumption) ?_;rotate_left;(focus (intro w' hSw;(try dsimp only at hSw);go_simp;(try with_reducible rfl)));(try rotate_left);(try simp only [Act.put,List.setIfInBounds_toArray,List.set_cons_zero,List.set_cons_succ])
      refine wpAnyH_take (i:=1) (oi:=⟨some 4,_,_,_,_,_⟩) (v:=?_) rfl (by kernel_rfl) (by kernel_rfl) (by kernel_rfl) (fun _ _ _ h=>h) (Or.inl ⟨by rfl,?_⟩) (by assumption) ?_;rotate_left;(focus (intro w' hSw;(try dsimp only at hSw);go_simp;(try with_reducible rfl)));(try rotate_left);(try simp only [Act.put,List.setIfInBounds_toArray,List.set_cons_zero,List.set_cons_succ])
      refine wpAnyH_ready (rs:=[2]) (by kernel_rfl) (by simp) ?_
      refine AllReadyH.cons (o:=⟨some 5,_,_,_,_,_⟩) rfl (fun K hK=>?_) AllReadyH.nil
      go_simp
      (go_at_call 39;refine bHit w (by exact zB) fun bb=>?_;refine (bounded_any h _).mono ?_;rintro _ w1 ⟨rfl,hbw1⟩;have hCw1:Below w.heap.size w w1:=bT bb hbw1;have hsw1:=hbw1.size;(try simp at hsw1);have zz:=hQ hbw1 (b:=w.heap.size);(try simp [go_sem] at zz);(try clear z_w x_w f_w l_w);have z_w:=zz;clear zz;obtain ⟨x_w,f_w,l_w⟩:=bO z_w;clear hbw1 bb)
      refine hK.out _ _ ⟨z_w,x_w⟩ (fun hS1=>?_)
      clear hK
      (try simp only [Act.put,List.setIfInBounds_toArray,List.set_cons_zero,List.set_cons_succ])
      refine wpAnyH_take (i:=3) (oi:=⟨some 6,_,_,_,_,_⟩) (v:=?_) rfl (by kernel_rfl) (by kernel_rfl) (by kernel_rfl) (fun _ _ _ h=>h) (Or.inl ⟨by rfl,?_⟩) (by assumption) ?_;rotate_left;(focus (intro w' hSw;(try dsimp only at hSw);go_simp;(try with_reducible rfl)));(try rotate_left);(try simp only [Act.put,List.setIfInBounds_toArray,List.set_cons_zero,List.set_cons_succ])
      refine wpAnyH_take (i:=4) (oi:=⟨some 7,_,_,_,_,_⟩) (v:=?_) rfl (by kernel_rfl) (by kernel_rfl) (by kernel_rfl) (fun _ _ _ h=>h) (Or.inl ⟨by rfl,?_⟩) (by assumption) ?_;rotate_left;(focus (intro w' hSw;(try dsimp only at hSw);go_simp;(try with_reducible rfl)));(try rotate_left);(try simp only [Act.put,List.setIfInBounds_toArray,List.set_cons_zero,List.set_cons_succ])
      refine wpAnyH_take (i:=5) (oi:=⟨some 8,_,_,_,_,_⟩) (v:=?_) rfl (by kernel_rfl) (by kernel_rfl) (by kernel_rfl) (fun _ _ _ h=>h) (Or.inl ⟨by rfl,?_⟩) (by assumption) ?_;rotate_left;(focus (intro w' hSw;(try dsimp only at hSw);go_simp;(try with_reducible rfl)));(try rotate_left);(try simp only [Act.put,List.setIfInBounds_toArray,List.set_cons_zero,List.set_cons_succ])
      refine wpAnyH_take (i:=6) (oi:=⟨some 9,_,_,_,_,_⟩) (v:=?_) rfl (by kernel_rfl) (by kernel_rfl) (by kernel_rfl) (fun _ _ _ h=>h) (Or.inl ⟨by rfl,?_⟩) (by assumption) ?_;rotate_left;(focus (intro w' hSw;(try dsimp only at hSw);go_simp;(try with_reducible rfl)));(try rotate_left);(try simp only [Act.put,List.setIfInBounds_toArray,List.set_cons_zero,List.set_cons_succ])
      refine wpAnyH_take (i:=7) (oi:=⟨some 10,_,_,_,_,_⟩) (v:=?_) rfl (by kernel_rfl) (by kernel_rfl) (by kernel_rfl) (fun _ _ _ h=>h) (Or.inl ⟨by rfl,?_⟩) (by assumption) ?_;rotate_left;(focus (intro w' hSw;(try dsimp only at hSw);go_simp;(try with_reducible rfl)));(try rotate_left);(try simp only [Act.put,List.setIfInBounds_toArray,List.set_cons_zero,List.set_cons_succ])
      refine wpAnyH_take (i:=8) (oi:=⟨some 11,_,_,_,_,_⟩) (v:=?_) rfl (by kernel_rfl) (by kernel_rfl) (by kernel_rfl) (fun _ _ _ h=>h) (Or.inl ⟨by rfl,?_⟩) (by assumption) ?_;rotate_left;(focus (intro w' hSw;(try dsimp only at hSw);go_simp;(try with_reducible rfl)));(try rotate_left);(try simp only [Act.put,List.setIfInBounds_toArray,List.set_cons_zero,List.set_cons_succ])
      refine wpAnyH_take (i:=9) (oi:=⟨some 12,_,_,_,_,_⟩) (v:=?_) rfl (by kernel_rfl) (by kernel_rfl) (by kernel_rfl) (fun _ _ _ h=>h) (Or.inl ⟨by rfl,?_⟩) (by assumption) ?_;rotate_left;(focus (intro w' hSw;(try dsimp only at hSw);go_simp;(try with_reducible rfl)));(try rotate_left);(try simp only [Act.put,List.setIfInBounds_toArray,List.set_cons_zero,List.set_cons_succ])
      refine wpAnyH_take (i:=10) (oi:=⟨some 13,_,_,_,_,_⟩) (v:=?_) rfl (by kernel_rfl) (by kernel_rfl) (by kernel_rfl) (fun _ _ _ h=>h) (Or.inl ⟨by rfl,?_⟩) (by assumption) ?_;rotate_left;(focus (intro w' hSw;(try dsimp only at hSw);go_simp;(try with_reducible rfl)));(try rotate_left);(try simp only [Act.put,List.setIfInBounds_toArray,List.set_cons_zero,List.set_cons_succ])
      refine wpAnyH_ready (rs:=[11]) (by kernel_rfl) (by simp) ?_
      refine AllReadyH.cons (o:=⟨some 14,_,_,_,_,_⟩) rfl (fun K hK=>?_) AllReadyH.nil
      go_simp
      (go_at_call 40;refine bHit w (by exact zB) fun bb=>?_;refine (callOk_any h.code h.elem _).mono ?_;rintro _ w2 ⟨rfl,hbw2⟩;have hCw2:Below w.heap.size w w2:=bT bb hbw2;have hsw2:=hbw2.size;(try simp at hsw2);have zz:=hQ hbw2 (b:=w.heap.size);(first|simp [go_sem,z_w,l_w] at zz|simp [go_sem] at zz|skip);(try clear z_w x_w f_w l_w);have z_w:=zz;clear zz;obtain ⟨x_w,f_w,l_w⟩:=bO z_w;clear hbw2 bb)
      refine hK.out _ _ ⟨z_w,x_w⟩ (fun hS2=>?_)
      clear hK
      (try simp only [Act.put,List.setIfInBounds_toArray,List.set_cons_zero,List.set_cons_succ])
      refine wpAnyH_take (i:=12) (oi:=⟨some 15,_,_,_,_,_⟩) (v:=?_) rfl (by kernel_rfl) (by kernel_rfl) (by kernel_rfl) (fun _ _ _ h=>h) (Or.inl ⟨by rfl,?_⟩) (by assumption) ?_;rotate_left;(focus (intro w' hSw;(try dsimp only at hSw);go_simp;(try with_reducible rfl)));(try rotate_left);(try simp only [Act.put,List.setIfInBounds_toArray,List.set_cons_zero,List.set_cons_succ])
      refine wpAnyH_take (i:=13) (oi:=⟨some 16,_,_,_,_,_⟩) (v:=?_) rfl (by kernel_rfl) (by kernel_rfl) (by kernel_rfl) (fun _ _ _ h=>h) (Or.inl ⟨by rfl,?_⟩) (by assumption) ?_;rotate_left;(focus (intro w' hSw;(try dsimp only at hSw);go_simp;(try with_reducible rfl)));(try rotate_left);(try simp only [Act.put,List.setIfInBounds_toArray,List.set_cons_zero,List.set_cons_succ])
      refine wpAnyH_take (i:=14) (oi:=⟨some 2,_,_,_,_,_⟩) (v:=?_) rfl (by kernel_rfl) (by kernel_rfl) (by kernel_rfl) (fun _ _ _ h=>h) (Or.inl ⟨by rfl,?_⟩) (by assumption) ?_;rotate_left;(focus (intro w' hSw;(try dsimp only at hSw);go_simp;(try with_reducible rfl)));(try rotate_left);(try simp only [Act.put,List.setIfInBounds_toArray,List.set_cons_zero,List.set_cons_succ])
      refine wpAnyH_done (by kernel_rfl) ?_ _
      go_wp2
      go_ret
      exact ⟨ret_bool (by rw [← HK.out];simp [he,e0]),by exact zB⟩
  · have he2:eqHa h (boundH h)=false:=by simpa using he
    clear he
    focus
      go_enter Tryz.func11,Tryz.ntmps11
      go_wp2_with fail
      refine wp_region_held_drew (S:=fun w'=>hp w' w.heap.size=some (.cells (hvals h) 31)∧(∀ o,w'.cell? ⟨w.heap.size,o,none⟩=(hvals h)[o]?)) (by kernel_rfl) (by simp [*,go_sem]) (fun hS0=>?_)
      refine wpAnyH_take (i:=0) (oi:=⟨some 3,_,_,_,_,_⟩) (v:=?_) rfl (by kernel_rfl) (by kernel_rfl) (by kernel_rfl) (fun _ _ _ h=>h) (Or.inl ⟨by rfl,?_⟩) (by assumption) ?_;rotate_left;(focus (intro w' hSw;(try dsimp only at hSw);go_simp;(try with_reducible rfl)));(try rotate_left);(try simp only [Act.put,List.setIfInBounds_toArray,List.set_cons_zero,List.set_cons_succ])
      refine wpAnyH_take (i:=1) (oi:=⟨some 4,_,_,_,_,_⟩) (v:=?_) rfl (by kernel_rfl) (by kernel_rfl) (by kernel_rfl) (fun _ _ _ h=>h) (Or.inl ⟨by rfl,?_⟩) (by assumption) ?_;rotate_left;(focus (intro w' hSw;(try dsimp only at hSw);go_simp;(try with_reducible rfl)));(try rotate_left);(try simp only [Act.put,List.setIfInBounds_toArray,List.set_cons_zero,List.set_cons_succ])
      refine wpAnyH_ready (rs:=[2]) (by kernel_rfl) (by simp) ?_
      refine AllReadyH.cons (o:=⟨some 5,_,_,_,_,_⟩) rfl (fun K hK=>?_) AllReadyH.nil
      go_simp
      (go_at_call 39;refine bHit w (by exact zB) fun bb=>?_;refine (bounded_any h _).mono ?_;rintro _ w1 ⟨rfl,hbw1⟩;have hCw1:Below w.heap.size w w1:=bT bb hbw1;have hsw1:=hbw1.size;(try simp at hsw1);have zz:=hQ hbw1 (b:=w.heap.size);(try simp [go_sem] at zz);(try clear z_w x_w f_w l_w);have z_w:=zz;clear zz;obtain ⟨x_w,f_w,l_w⟩:=bO z_w;clear hbw1 bb)
      refine hK.out _ _ ⟨z_w,x_w⟩ (fun hS1=>?_)
      clear hK
      (try simp only [Act.put,List.setIfInBounds_toArray,List.set_cons_zero,List.set_cons_succ])
      refine wpAnyH_take (i:=3) (oi:=⟨some 6,_,_,_,_,_⟩) (v:=?_) rfl (by kernel_rfl) (by kernel_rfl) (by kernel_rfl) (fun _ _ _ h=>h) (Or.inl ⟨by rfl,?_⟩) (by assumption) ?_;rotate_left;(focus (intro w' hSw;(try dsimp only at hSw);go_simp;(try with_reducible rfl)));(try rotate_left);(try simp only [Act.put,List.setIfInBounds_toArray,List.set_cons_zero,List.set_cons_succ])
      refine wpAnyH_take (i:=4) (oi:=⟨some 7,_,_,_,_,_⟩) (v:=?_) rfl (by kernel_rfl) (by kernel_rfl) (by kernel_rfl) (fun _ _ _ h=>h) (Or.inl ⟨by rfl,?_⟩) (by assumption) ?_;rotate_left;(focus (intro w' hSw;(try dsimp only at hSw);go_simp;(try with_reducible rfl)));(try rotate_left);(try simp only [Act.put,List.setIfInBounds_toArray,List.set_cons_zero,List.set_cons_succ])
      refine wpAnyH_take (i:=5) (oi:=⟨some 8,_,_,_,_,_⟩) (v:=undef) rfl (by kernel_rfl) (by kernel_rfl) (by kernel_rfl) (fun _ _ _ h=>h) (Or.inr ⟨by rfl,rfl⟩) (by assumption) ?_;(try simp only [Act.put,List.setIfInBounds_toArray,List.set_cons_zero,List.set_cons_succ])
      refine wpAnyH_take (i:=6) (oi:=⟨some 9,_,_,_,_,_⟩) (v:=undef) rfl (by kernel_rfl) (by kernel_rfl) (by kernel_rfl) (fun _ _ _ h=>h) (Or.inr ⟨by rfl,rfl⟩) (by assumption) ?_;(try simp only [Act.put,List.setIfInBounds_toArray,List.set_cons_zero,List.set_cons_succ])
      refine wpAnyH_take (i:=7) (oi:=⟨some 10,_,_,_,_,_⟩) (v:=undef) rfl (by kernel_rfl) (by kernel_rfl) (by kernel_rfl) (fun _ _ _ h=>h) (Or.inr ⟨by rfl,rfl⟩) (by assumption) ?_;(try simp only [Act.put,List.setIfInBounds_toArray,List.set_cons_zero,List.set_cons_succ])
      refine wpAnyH_take (i:=8) (oi:=⟨some 11,_,_,_,_,_⟩) (v:=undef) rfl (by kernel_rfl) (by kernel_rfl) (by kernel_rfl) (fun _ _ _ h=>h) (Or.inr ⟨by rfl,rfl⟩) (by assumption) ?_;(try simp only [Act.put,List.setIfInBounds_toArray,List.set_cons_zero,List.set_cons_succ])
      refine wpAnyH_take (i:=9) (oi:=⟨some 12,_,_,_,_,_⟩) (v:=undef) rfl (by kernel_rfl) (by kernel_rfl) (by kernel_rfl) (fun _ _ _ h=>h) (Or.inr ⟨by rfl,rfl⟩) (by assumption) ?_;(try simp only [Act.put,List.setIfInBounds_toArray,List.set_cons_zero,List.set_cons_succ])
      refine wpAnyH_take (i:=10) (oi:=⟨some 13,_,_,_,_,_⟩) (v:=undef) rfl (by kernel_rfl) (by kernel_rfl) (by kernel_rfl) (fun _ _ _ h=>h) (Or.inr ⟨by rfl,rfl⟩) (by assumption) ?_;(try simp only [Act.put,List.setIfInBounds_toArray,List.set_cons_zero,List.set_cons_succ])
      refine wpAnyH_take (i:=11) (oi:=⟨some 14,_,_,_,_,_⟩) (v:=undef) rfl (by kernel_rfl) (by kernel_rfl) (by kernel_rfl) (fun _ _ _ h=>h) (Or.inr ⟨by rfl,rfl⟩) (by assumption) ?_;(try simp only [Act.put,List.setIfInBounds_toArray,List.set_cons_zero,List.set_cons_succ])
      refine wpAnyH_take (i:=12) (oi:=⟨some 15,_,_,_,_,_⟩) (v:=undef) rfl (by kernel_rfl) (by kernel_rfl) (by kernel_rfl) (fun _ _ _ h=>h) (Or.inr ⟨by rfl,rfl⟩) (by assumption) ?_;(try simp only [Act.put,List.setIfInBounds_toArray,List.set_cons_zero,List.set_cons_succ])
      refine wpAnyH_take (i:=13) (oi:=⟨some 16,_,_,_,_,_⟩) (v:=?_) rfl (by kernel_rfl) (by kernel_rfl) (by kernel_rfl) (fun _ _ _ h=>h) (Or.inl ⟨by rfl,?_⟩) (by assumption) ?_;rotate_left;(focus (intro w' hSw;(try dsimp only at hSw);go_simp;(try with_reducible rfl)));(try rotate_left);(try simp only [Act.put,List.setIfInBounds_toArray,List.set_cons_zero,List.set_cons_succ])
      refine wpAnyH_take (i:=14) (oi:=⟨some 2,_,_,_,_,_⟩) (v:=?_) rfl (by kernel_rfl) (by kernel_rfl) (by kernel_rfl) (fun _ _ _ h=>h) (Or.inl ⟨by rfl,?_⟩) (by assumption) ?_;rotate_left;(focus (intro w' hSw;(try dsimp only at hSw);go_simp;(try with_reducible rfl)));(try rotate_left);(try simp only [Act.put,List.setIfInBounds_toArray,List.set_cons_zero,List.set_cons_succ])
      refine wpAnyH_done (by kernel_rfl) ?_ _
      go_wp2
      go_ret
      exact ⟨ret_bool (by rw [← HK.out];simp [he2]),by exact zB⟩
end Go.Proofs.YtkiingmgpobgnaaGreat
set_option linter.unusedSimpArgs false
set_option linter.unusedVariables false
namespace Go.Proofs.YtkiingmgpobgnaaGreat
open Go.RowKit
attribute [local go_sem ↓] zeroHand toLHand toVHand storeHand storeHandC
attribute [local go_sem ↓] eqHandV
set_option maxRecDepth 100000 in
theorem resting_any (x o:Int) (w:World):Calls Tryz.prog 76 #[.int .i64 x,.int .i64 o] w fun r w'=>r=.returned (.agg (hvals (resting x o)))∧Below w.heap.size w w':=by
  go_enter Tryz.func76,Tryz.ntmps76
  go_wp2
  refine bodyPost_ret (res_c Tryz.results76 rfl (ldHand (resting x o) (by simp [go_sem] <;> rfl))) rfl ⟨rfl,by exact zB⟩
theorem firstAt_any (k e:Int) (w:World):Calls Tryz.prog 128 #[.agg #[.int .i64 k,.int .i64 e]] w fun r w'=>r=.returned (.int .i64 (if k == 1 then 1 else 9))∧Below w.heap.size w w':=by
  go_enter Tryz.func128,Tryz.ntmps128
  go_wp2
  all_goals go_ret
  all_goals exact ⟨ret_i64 (by simp_all),by exact zB⟩
theorem begun_of {k e:Int} (h:callOk k e=true):begun k e 0=⟨if k == 1 then 1 else 9,k,e,0,0,0,0,0,0,0,0,0,0,0⟩:=by
  have hk:k=1∨k=2:=by simp [callOk] at h;omega
  rcases hk with rfl|rfl <;> rfl
set_option maxRecDepth 100000 in
set_option maxHeartbeats 2000000 in
theorem called_any (h:Ha) (k e:Int) (w:World):Calls Tryz.prog 123 #[.agg (hvals h),.agg #[.int .i64 k,.int .i64 e]] w fun r w'=>r=.returned (.tuple #[.agg (hvals (called h k e).1),.int .i64 (called h k e).2])∧Below w.heap.size w w':=by
  by_cases h0:handOk h=true
  · by_cases h1:h.pos=0
    · by_cases h2:callOk k e=true
      · rw [show called h k e=(begun k e 0,0) by simp [called,h0,h1,h2]]
        rw [begun_of h2]
        have FA:=firstAt_any k e
        generalize (if k == 1 then (1:Int) else 9)=m at *
        have n1:(h.pos != 0)=false:=by simp [h1]
        clear h1
        go_enter Tryz.func123,Tryz.ntmps123
        go_wp2_with fail;refine bHit w (by exact zB) fun bb=>?_;refine (handOk_any h _).mono ?_;rintro _ w1 ⟨rfl,hbw1⟩;have hCw1:Below w.heap.size w w1:=bT bb hbw1;have hsw1:=hbw1.size;(try simp at hsw1);have zz:=And.intro (hQ hbw1 (b:=w.heap.size+1+1)) <| And.intro (hQ hbw1 (b:=w.heap.size+1)) <| hQ hbw1 (b:=w.heap.size);(try simp [go_sem] at zz);(try clear z_wpp x_wpp f_wpp l_wpp);(try clear z_wp x_wp f_wp l_wp);(try clear z_w x_w f_w l_w);obtain ⟨z_wpp,z_wp,z_w⟩:=zz;obtain ⟨x_wpp,f_wpp,l_wpp⟩:=bO z_wpp;obtain ⟨x_wp,f_wp,l_wp⟩:=bO z_wp;obtain ⟨x_w,f_w,l_w⟩:=bO z_w;clear hbw1 bb
        rw [h0]
        go_wp2_with fail;refine bHit w (by exact zB) fun bb=>?_;refine (callOk_any k e _).mono ?_;rintro _ w2 ⟨rfl,hbw2⟩;have hCw2:Below w.heap.size w w2:=bT bb hbw2;have hsw2:=hbw2.size;(try simp at hsw2);have zz:=And.intro (hQ hbw2 (b:=w.heap.size+1+1)) <| And.intro (hQ hbw2 (b:=w.heap.size+1)) <| hQ hbw2 (b:=w.heap.size);(first|simp [go_sem,z_wpp,z_wp,z_w,l_w,l_wp,l_wpp] at zz|simp [go_sem] at zz|skip);(try clear z_wpp x_wpp f_wpp l_wpp);(try clear z_wp x_wp f_wp l_wp);(try clear z_w x_w f_w l_w);obtain ⟨z_wpp,z_wp,z_w⟩:=zz;obtain ⟨x_wpp,f_wpp,l_wpp⟩:=bO z_wpp;obtain ⟨x_wp,f_wp,l_wp⟩:=bO z_wp;obtain ⟨x_w,f_w,l_w⟩:=bO z_w;clear hbw2 bb
        rw [h2]
        go_wp2_with fail
        go_region_held3 (fun w'=>w'.cell? ⟨w.heap.size+1,0,none⟩=some (.int .i64 k)∧w'.cell? ⟨w.heap.size+1,1,none⟩=some (.int .i64 e))
          (first|(simp [*,go_sem]))
          (first|(go_at_call 128;refine bHit w (by exact zB) fun bb=>?_;refine (FA _).mono ?_;rintro _ w3 ⟨rfl,hbw3⟩;have hCw3:Below w.heap.size w w3:=bT bb hbw3;have hsw3:=hbw3.size;(try simp at hsw3);have zz:=And.intro (hQ hbw3 (b:=w.heap.size+1+1)) <| And.intro (hQ hbw3 (b:=w.heap.size+1)) <| hQ hbw3 (b:=w.heap.size);(first|simp [go_sem,z_wpp,z_wp,z_w,l_w,l_wp,l_wpp] at zz|simp [go_sem] at zz|skip);(try clear z_wpp x_wpp f_wpp l_wpp);(try clear z_wp x_wp f_wp l_wp);(try clear z_w x_w f_w l_w);obtain ⟨z_wpp,z_wp,z_w⟩:=zz;obtain ⟨x_wpp,f_wpp,l_wpp⟩:=bO z_wpp;obtain ⟨x_wp,f_wp,l_wp⟩:=bO z_wp;obtain ⟨x_w,f_w,l_w⟩:=bO z_w;clear hbw3 bb))
        go_wp2
        exact bodyPost_ret (res_ct Tryz.results123 rfl (ldHand ⟨m,k,e,0,0,0,0,0,0,0,0,0,0,0⟩ (by simp [go_sem, *] <;> rfl))) rfl ⟨rfl,by exact zB⟩
      · have h2':callOk k e=false:=by simpa using h2
        rw [show called h k e=(h,2) by simp [called,h0,h1,h2']]
        have n1:(h.pos != 0)=false:=by simp [h1]
        clear h1 h2
        go_enter Tryz.func123,Tryz.ntmps123
        go_wp2_with fail;refine bHit w (by exact zB) fun bb=>?_;refine (handOk_any h _).mono ?_;rintro _ w1 ⟨rfl,hbw1⟩;have hCw1:Below w.heap.size w w1:=bT bb hbw1;have hsw1:=hbw1.size;(try simp at hsw1);have zz:=And.intro (hQ hbw1 (b:=w.heap.size+1+1)) <| And.intro (hQ hbw1 (b:=w.heap.size+1)) <| hQ hbw1 (b:=w.heap.size);(try simp [go_sem] at zz);(try clear z_wpp x_wpp f_wpp l_wpp);(try clear z_wp x_wp f_wp l_wp);(try clear z_w x_w f_w l_w);obtain ⟨z_wpp,z_wp,z_w⟩:=zz;obtain ⟨x_wpp,f_wpp,l_wpp⟩:=bO z_wpp;obtain ⟨x_wp,f_wp,l_wp⟩:=bO z_wp;obtain ⟨x_w,f_w,l_w⟩:=bO z_w;clear hbw1 bb
        rw [h0]
        go_wp2_with fail;refine bHit w (by exact zB) fun bb=>?_;refine (callOk_any k e _).mono ?_;rintro _ w2 ⟨rfl,hbw2⟩;have hCw2:Below w.heap.size w w2:=bT bb hbw2;have hsw2:=hbw2.size;(try simp at hsw2);have zz:=And.intro (hQ hbw2 (b:=w.heap.size+1+1)) <| And.intro (hQ hbw2 (b:=w.heap.size+1)) <| hQ hbw2 (b:=w.heap.size);(first|simp [go_sem,z_wpp,z_wp,z_w,l_w,l_wp,l_wpp] at zz|simp [go_sem] at zz|skip);(try clear z_wpp x_wpp f_wpp l_wpp);(try clear z_wp x_wp f_wp l_wp);(try clear z_w x_w f_w l_w);obtain ⟨z_wpp,z_wp,z_w⟩:=zz;obtain ⟨x_wpp,f_wpp,l_wpp⟩:=bO z_wpp;obtain ⟨x_wp,f_wp,l_wp⟩:=bO z_wp;obtain ⟨x_w,f_w,l_w⟩:=bO z_w;clear hbw2 bb
        rw [h2']
        go_wp2
        exact bodyPost_ret (res_ct Tryz.results123 rfl (ldHand h (by simp [go_sem, *]))) rfl ⟨rfl,by exact zB⟩
    · rw [show called h k e=(h,1) by simp [called,h0,h1]]
      have n1:(h.pos != 0)=true:=by simpa using h1
      clear h1
      go_enter Tryz.func123,Tryz.ntmps123
      go_wp2_with fail;refine bHit w (by exact zB) fun bb=>?_;refine (handOk_any h _).mono ?_;rintro _ w1 ⟨rfl,hbw1⟩;have hCw1:Below w.heap.size w w1:=bT bb hbw1;have hsw1:=hbw1.size;(try simp at hsw1);have zz:=And.intro (hQ hbw1 (b:=w.heap.size+1+1)) <| And.intro (hQ hbw1 (b:=w.heap.size+1)) <| hQ hbw1 (b:=w.heap.size);(try simp [go_sem] at zz);(try clear z_wpp x_wpp f_wpp l_wpp);(try clear z_wp x_wp f_wp l_wp);(try clear z_w x_w f_w l_w);obtain ⟨z_wpp,z_wp,z_w⟩:=zz;obtain ⟨x_wpp,f_wpp,l_wpp⟩:=bO z_wpp;obtain ⟨x_wp,f_wp,l_wp⟩:=bO z_wp;obtain ⟨x_w,f_w,l_w⟩:=bO z_w;clear hbw1 bb
      rw [h0]
      go_wp2
      exact bodyPost_ret (res_ct Tryz.results123 rfl (ldHand h (by simp [go_sem, *]))) rfl ⟨rfl,by exact zB⟩
  · have h0':handOk h=false:=by simpa using h0
    rw [show called h k e=(Ha.zero,3) by simp [called,h0']]
    clear h0
    go_enter Tryz.func123,Tryz.ntmps123
    go_wp2_with fail;refine bHit w (by exact zB) fun bb=>?_;refine (handOk_any h _).mono ?_;rintro _ w1 ⟨rfl,hbw1⟩;have hCw1:Below w.heap.size w w1:=bT bb hbw1;have hsw1:=hbw1.size;(try simp at hsw1);have zz:=And.intro (hQ hbw1 (b:=w.heap.size+1+1)) <| And.intro (hQ hbw1 (b:=w.heap.size+1)) <| hQ hbw1 (b:=w.heap.size);(try simp [go_sem] at zz);(try clear z_wpp x_wpp f_wpp l_wpp);(try clear z_wp x_wp f_wp l_wp);(try clear z_w x_w f_w l_w);obtain ⟨z_wpp,z_wp,z_w⟩:=zz;obtain ⟨x_wpp,f_wpp,l_wpp⟩:=bO z_wpp;obtain ⟨x_wp,f_wp,l_wp⟩:=bO z_wp;obtain ⟨x_w,f_w,l_w⟩:=bO z_w;clear hbw1 bb
    rw [h0']
    go_wp2
    exact bodyPost_ret (res_ct Tryz.results123 rfl (ldHand Ha.zero (by simp [go_sem, *]))) rfl ⟨rfl,by exact zB⟩
end Go.Proofs.YtkiingmgpobgnaaGreat
