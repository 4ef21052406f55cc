/-
  The draw of a channel and a hand that is parked; no condition.
  A step touches one thing at most: a counter, a cell, or a word, but for a word that is new; on plain numbers and lists; no condition.
  The laws' count of what has been touched, of any two channels whose lists hold at most 2 ^ 20 elements; no condition but that lists lie in memory.
  The laws' comparisons of lists and of channels, of two that hold the same; lists of any length that memory holds.
  The contracts of the program's functions of chapter 1; no condition but that lists lie in memory.
  The program's functions of chapter 2; lists lie in memory and hold at most what memory can hold.
  The reference model's KeptIn, WaitingIn and NewChan; lists lie in memory and hold at most 2 ^ 40 elements.
  The program's NewChan, KeptIn and WaitingIn; lists lie in memory and hold at most what memory can hold.
  The program's functions of chapter 3 that tell a word, and its copies of lists; lists lie in memory and hold at most 2 ^ 40 elements.
  What a step of parking leaves, as a fact on numbers and lists; no condition.
  A drawn region by an invariant: what has come up is a function to Bool, what lies in the slots a function to values; each operation is carried out once, whatever came up before it; no condition.
  Boxes of a call's own, by what points at them; no condition.
  Two hands that are kept whole are compared as structs; no condition.
  The contracts of the program's functions of chapter 4; no condition.
-/
import Derived.Test.YtkiingmgpobgnaaGreatP10
import Derived.Test.YtkiingmgpobgnaaGreatP09
import Derived.Test.YtkiingmgpobgnaaGreatP01
import Derived.Laws.StructEq
import Derived.Deep.CutBlock
import Derived.Deep.DeepCutAuto
import Derived.Deep.QuietTactic
import Derived.BigQuiet
import Derived.Test.YtkiingmgpobgnaaGreatP08
import Derived.Deep.AppendLies
import Derived.Test.YtkiingmgpobgnaaGreatP02
import Derived.Laws.Cover3
import Derived.Test.YtkiingmgpobgnaaGreatP05
import Derived.Deep.RegionHeld3
set_option linter.unusedSimpArgs false
set_option linter.unusedVariables false
namespace Go.Proofs.YtkiingmgpobgnaaGreat
open Go.RowKit
set_option linter.unusedSimpArgs false
attribute [local simp] bx_size
attribute [local go_sem ↓] zeroHand zeroChan toLHand toLChan toVHand toVChan storeHand storeChan storeHandC storeChanC
attribute [local go_sem ↓] toSHand
attribute [local go_sem] runSHand
set_option maxRecDepth 100000 in
set_option maxHeartbeats 1000000 in
theorem drawParkStep_any (n cap:Nat) (a:Option Addr) (bs:Nat→Int) (w:World) (h:Code w w.heap.size a n bs) :
    Calls Tryz.prog 13 #[.slice a n cap] w fun r w'=>StepD w' w.heap.size r∧Below w.heap.size w w':=by
  go_enter Tryz.func13,Tryz.ntmps13
  go_wp2_with fail;refine (new_any w.heap.size _ _ _ bs _ (h.below (by exact zB)) (by ((try simp);(try omega)))).mono ?_;rintro _ w1 ⟨g,rfl,hdw1,hgle,hbw1⟩;have hBw1:Below w.heap.size w w1:=bT (by exact zB) hbw1;have hlw1:=hdw1.lt;have hsw1:=hbw1.size;(try (simp at hsw1));(try (simp at hgle));have:=fun o=>hbw1.cell (p:=⟨w.heap.size,o,none⟩) (by ((try simp);(try omega)));have:=fun o=>hbw1.frozen (p:=⟨w.heap.size,o,none⟩) (by ((try simp);(try omega)));have:=fun o=>hbw1.cell (p:=⟨w.heap.size+1,o,none⟩) (by ((try simp);(try omega)));have:=fun o=>hbw1.frozen (p:=⟨w.heap.size+1,o,none⟩) (by ((try simp);(try omega)));have:w.heap.size<w1.heap.size:=(by omega);have:w.heap.size≤w1.heap.size:=(by omega);have:w.heap.size≤w1.heap.size+1:=(by omega);have:w.heap.size+1<w1.heap.size:=(by omega);have:w.heap.size+1≤w1.heap.size:=(by omega);have:w.heap.size+1≤w1.heap.size+1:=(by omega)
  have hsw1:=hbw1.size;(try (simp at hsw1));have zz:=hQ hbw1 (b:=w.heap.size);(first|(simp [go_sem,z_w,l_w] at zz)|(simp [go_sem] at zz));(try clear x_w f_w);(try clear z_w);have z_w:=zz;clear zz;(try clear l_w);obtain ⟨x_w,f_w,l_w⟩:=bO z_w;have zz:=hQ hbw1 (b:=w.heap.size+1);(first|(simp [go_sem,z_wp,l_wp] at zz)|(simp [go_sem] at zz));(try clear x_wp f_wp);(try clear z_wp);have z_wp:=zz;clear zz;(try clear l_wp);obtain ⟨x_wp,f_wp,l_wp⟩:=bO z_wp
  have m_w:some w.heap.size≠some g:=by simp;omega
  have m_wp:some (w.heap.size+1)≠some g:=by simp;omega
  have k_w:w.heap.size<w1.heap.size:=by omega
  have k_wp:w.heap.size+1<w1.heap.size:=by omega
  go_wp2_with fail
  refine (l6Draw_any w.heap.size g 23 25 0 _ (by (repeat (first|with_reducible assumption|with_reducible refine DS.alloc ?_|with_reducible refine DS.drew ?_|((with_reducible refine DS.setCell ?_ ?_ ?_);rotate_left;(focus ((try simp);(try omega)));(focus ((try simp);(try omega))))))) (by omega) (by omega) (by omega) (by omega)).mono ?_
  rintro _ w2 ⟨⟨c,hh,v1,v2,rfl,o1,o2,hl1,hl2⟩,hdw2,hgw2⟩
  have hBw2:Below w.heap.size w w2:=bG (by exact zB) hgw2 (by omega)
  have hsw2:=hgw2.size;(try (simp at hsw2));have zz:=gQ hgw2 (b:=w.heap.size) m_w;(first|(simp [go_sem,z_w,l_w] at zz)|(simp [go_sem] at zz));(try clear x_w f_w);(try clear z_w);have z_w:=zz;clear zz;(try clear l_w);obtain ⟨x_w,f_w,l_w⟩:=bO z_w;have zz:=gQ hgw2 (b:=w.heap.size+1) m_wp;(first|(simp [go_sem,z_wp,l_wp] at zz)|(simp [go_sem] at zz));(try clear x_wp f_wp);(try clear z_wp);have z_wp:=zz;clear zz;(try clear l_wp);obtain ⟨x_wp,f_wp,l_wp⟩:=bO z_wp
  obtain ⟨e1,p1,rfl,_⟩:=o1.seg
  obtain ⟨e2,p2,rfl,_⟩:=o2.seg
  go_wp2
  refine bodyPost_ret (v:=.tuple #[.agg (cvals c (.slice e1 c.cells.length p1) (.slice e2 c.words.length p2)),.agg (hvals hh)]) (res_cc Tryz.results13 rfl (ldChan c _ _ (by simp [go_sem, *] <;> rfl)) rfl (ldHand hh (by simp [go_sem, *] <;> rfl))) rfl ⟨⟨c,hh,_,_,rfl,own_lo (lo:=w1.heap.size) (by exact zO o1 o1) (by omega),own_lo (lo:=w1.heap.size) (by exact zO o2 o2) (by omega),hl1,hl2⟩,by exact zB⟩
end Go.Proofs.YtkiingmgpobgnaaGreat
set_option linter.unusedSimpArgs false
set_option linter.unusedVariables false
namespace Go.Proofs.YtkiingmgpobgnaaGreat
def sameC (a b:C3):Bool:=a.s == b.s && (a.e == b.e && a.t == b.t)
theorem sameC_self (a:C3):sameC a a=true:=by simp [sameC]
/-- How many cells, how many words are others. -/
def diffC:List C3→List C3→Nat
  | a :: l,b :: m=>(if sameC a b then 0 else 1)+diffC l m
  | _,_=>0
def diffI:List Int→List Int→Nat
  | a :: l,b :: m=>(if a == b then 0 else 1)+diffI l m
  | _,_=>0
def oneN (a b:Int):Nat:=if a == b then 0 else 1
def touchedN (c d:Ch):Nat:=oneN c.sent d.sent+oneN c.got d.got+oneN c.fin d.fin+diffC c.cells d.cells+diffI c.words d.words
theorem diffC_self:∀ l:List C3,diffC l l=0
  | []=>rfl
  | a :: l=>by simp [diffC,sameC_self,diffC_self l]
theorem diffI_self:∀ l:List Int,diffI l l=0
  | []=>rfl
  | a :: l=>by simp [diffI,diffI_self l]
theorem diffC_set:∀ (l:List C3) (i:Nat) (x:C3),diffC l (l.set i x)≤1
  | [],_,_=>by simp [diffC]
  | a :: l,0,x=>by
    simp only [List.set_cons_zero,diffC,diffC_self]
    split <;> omega
  | a :: l,i+1,x=>by
    have:=diffC_set l i x
    simp only [List.set_cons_succ,diffC,sameC_self]
    simpa using this
theorem oneN_self (a:Int):oneN a a=0:=by simp [oneN]
theorem oneN_le (a b:Int):oneN a b≤1:=by unfold oneN;split <;> omega
theorem touch_none (c:Ch):touchedN c c≤1:=by simp [touchedN,oneN_self,diffC_self,diffI_self]
theorem touch_set (c:Ch) (i:Int) (x:C3):touchedN c (setAt c i x)≤1:=by have:=diffC_set c.cells i.toNat x;simp [touchedN,setAt,oneN_self,diffI_self];exact this
/-- What a step leaves of the channel. -/
def KeepT (c:Ch) (s:St):Prop:=s.2.2=true→chanOk s.1=true∧handOk s.2.1=true∧touchedN c s.1≤1∧c.fin≤s.1.fin∧s.1.words.length≤c.words.length+1
theorem keepT_no (c:Ch) (a:Ch) (b:Ha):KeepT c (a,b,false):=fun e=>by cases e
theorem keepT_nothing (c:Ch):KeepT c nothing:=fun e=>by cases e
theorem keepT_done {c c':Ch} {h':Ha} (H:touchedN c c'≤1) (hf:c.fin≤c'.fin) (hw:c'.words.length≤c.words.length+1):KeepT c (done c' h'):=by
  unfold done
  split
  · rename_i e
    simp at e
    exact fun _=>⟨e.1,e.2,H,hf,hw⟩
  · exact keepT_nothing c
theorem kN {c:Ch} {h':Ha}:KeepT c (done c h'):=keepT_done (touch_none c) (Int.le_refl _) (by omega)
theorem kS {c:Ch} {h':Ha} (i:Int) (x:C3):KeepT c (done (setAt c i x) h'):=keepT_done (touch_set c i x) (Int.le_refl _) (by simp [setAt])
theorem kSt {c:Ch} {h':Ha} (i st:Int):KeepT c (done (stateC c i st) h'):=kS i _
theorem touch_park (c:Ch) (h:Ha):KeepT c (parkStep c h):=by
  unfold parkStep
  repeat' split
  all_goals try exact keepT_nothing c
  · unfold park9
    repeat' split
    all_goals first|exact keepT_no c _ _|exact kN
  · exact kN
  · exact kSt _ _
end Go.Proofs.YtkiingmgpobgnaaGreat
set_option linter.unusedSimpArgs false
set_option linter.unusedVariables false
namespace Go.Proofs.YtkiingmgpobgnaaGreat
open Go.RowKit
set_option linter.unusedSimpArgs false
theorem eqCellW (x y:C3) (w:World):(Op.equalIn 10000 52 (.agg #[.int .i64 x.s,.int .i64 x.e,.int .i64 x.t]) (.agg #[.int .i64 y.s,.int .i64 y.e,.int .i64 y.t])).run Tryz.prog w=.ok (sameC x y) w:=by
  have u3:=Tryz.underlying2
  have a3:=Tryz.isAgg2
  have z3:=Tryz.sizeOf2
  have hS:Tryz.prog.underlying 52=some (.struct (Tryz.prog.fieldsOf 52)):=by kernel_rfl
  rw [show (10000:Nat)=9998+1+1 from rfl,run_equalIn_agg w (9998+1) 52 _ _ hS (by kernel_rfl)]
  simp only [Program.fieldsOf,Tryz.underlying52]
  go_simp
  by_cases h1:x.s=y.s <;> by_cases h2:x.e=y.e <;> by_cases h3:x.t=y.t <;> simp [sameC,h1,h2,h3]
theorem i64eq {x y:Int} (h:x=y):Value.int .i64 x=Value.int .i64 y:=by rw [h]
theorem diffC_take:∀ (l m:List C3) (k:Nat),k<l.length→k<m.length→diffC (l.take (k+1)) (m.take (k+1))=diffC (l.take k) (m.take k)+(if sameC (l.getD k ⟨0,0,0⟩) (m.getD k ⟨0,0,0⟩) then 0 else 1)
  | [],_,_,h,_=>by simp at h
  | _ :: _,[],_,_,h=>by simp at h
  | x :: l,y :: m,0,_,_=>by simp [diffC]
  | x :: l,y :: m,k+1,h,h'=>by
    have:=diffC_take l m k (by simpa using h) (by simpa using h')
    simp only [List.take_succ_cons,diffC,List.getD_cons_succ,this]
    omega
theorem diffI_take:∀ (l m:List Int) (k:Nat),k<l.length→k<m.length→diffI (l.take (k+1)) (m.take (k+1))=diffI (l.take k) (m.take k)+(if l.getD k 0 == m.getD k 0 then 0 else 1)
  | [],_,_,h,_=>by simp at h
  | _ :: _,[],_,_,h=>by simp at h
  | x :: l,y :: m,0,_,_=>by simp [diffI]
  | x :: l,y :: m,k+1,h,h'=>by
    have:=diffI_take l m k (by simpa using h) (by simpa using h')
    simp only [List.take_succ_cons,diffI,List.getD_cons_succ,this]
    omega
theorem diffC_end:∀ (l m:List C3) (k:Nat),k≤l.length→k≤m.length→(k=l.length∨k=m.length)→diffC (l.take k) (m.take k)=diffC l m
  | [],m,k,h,_,_=>by simp [diffC]
  | x :: l,[],k,_,h,_=>by simp [diffC]
  | x :: l,y :: m,0,_,_,h=>by rcases h with h|h <;> simp at h
  | x :: l,y :: m,k+1,h,h',e=>by
    have:=diffC_end l m k (by simpa using h) (by simpa using h') (by simpa using e)
    simp only [List.take_succ_cons,diffC,this]
theorem diffI_end:∀ (l m:List Int) (k:Nat),k≤l.length→k≤m.length→(k=l.length∨k=m.length)→diffI (l.take k) (m.take k)=diffI l m
  | [],m,k,h,_,_=>by simp [diffI]
  | x :: l,[],k,_,h,_=>by simp [diffI]
  | x :: l,y :: m,0,_,_,h=>by rcases h with h|h <;> simp at h
  | x :: l,y :: m,k+1,h,h',e=>by
    have:=diffI_end l m k (by simpa using h) (by simpa using h') (by simpa using e)
    simp only [List.take_succ_cons,diffI,this]
theorem diffC_le:∀ (l m:List C3),diffC l m≤l.length
  | [],m=>by simp [diffC]
  | x :: l,[]=>by simp [diffC]
  | x :: l,y :: m=>by
    have:=diffC_le l m
    simp only [diffC,List.length_cons]
    split <;> omega
theorem diffI_le:∀ (l m:List Int),diffI l m≤l.length
  | [],m=>by simp [diffI]
  | x :: l,[]=>by simp [diffI]
  | x :: l,y :: m=>by
    have:=diffI_le l m
    simp only [diffI,List.length_cons]
    split <;> omega
attribute [local simp] bx_size
attribute [local go_sem ↓] zeroHand zeroChan toLHand toLChan toVHand toVChan storeHand storeChan storeHandC storeChanC
attribute [local go_sem ↓] eqCellW
set_option maxRecDepth 100000 in
set_option maxHeartbeats 4000000 in
theorem touched_any (c d:Ch) (a b a' b':Option Addr) (p q p' q':Nat) (w:World) (h1:Seg w w.heap.size a c.cells.length 3 (cellF c.cells)) (h2:Seg w w.heap.size b c.words.length 1 (intF c.words)) (h3:Seg w w.heap.size a' d.cells.length 3 (cellF d.cells)) (h4:Seg w w.heap.size b' d.words.length 1 (intF d.words)) (m1:c.cells.length≤1048576) (m2:c.words.length≤1048576) (m3:d.cells.length≤1048576) (m4:d.words.length≤1048576) :
    Calls Tryz.prog 12 #[.agg (cvals c (.slice a c.cells.length p) (.slice b c.words.length q)),.agg (cvals d (.slice a' d.cells.length p') (.slice b' d.words.length q'))] w fun r w'=>r=.returned (.int .i64 (touchedN c d:Nat))∧Below w.heap.size w w':=by
  have H1:=Lib.hid h1
  have H2:=Lib.hid h2
  have H3:=Lib.hid h3
  have H4:=Lib.hid h4
  clear h1 h2 h3 h4
  go_enter Tryz.func12,Tryz.ntmps12
  go_upto_if 12 with fail
  go_cut [5] (fun s5 wx=>s5=.int .i64 (((0:Nat)+oneN c.sent d.sent:Nat):Int)∧hp wx w.heap.size=some (.cells (cvals c (.slice a c.cells.length p) (.slice b c.words.length q)) 27)∧hp wx (w.heap.size+1)=some (.cells (cvals d (.slice a' d.cells.length p') (.slice b' d.words.length q')) 27)∧Below w.heap.size w wx)
  case first =>
    have bn1:=oneN_le c.sent d.sent
    have bn2:=oneN_le c.got d.got
    by_cases e:c.sent=d.sent
    · have eb:(c.sent != d.sent)=false:=by simp [e]
      have o0:oneN c.sent d.sent=0:=by simp [oneN,e]
      clear e
      go_wp2_with fail
      go_meet
      exact ⟨by rw [o0];rfl,by simp [go_sem],by simp [go_sem],by exact zB⟩
    · have eb:(c.sent != d.sent)=true:=by simpa using e
      have o1:oneN c.sent d.sent=1:=by simp [oneN,e]
      clear e
      go_wp2_with fail
      go_meet
      exact ⟨by rw [o1];refine i64eq ?_;first|omega|(rw [IntWalk.wrap64_in _ (by omega)];omega),by simp [go_sem],by simp [go_sem],by exact zB⟩
  case rest =>
    skip
    obtain ⟨rfl,z_w,z_wp,hB⟩:=hcut
    have x_w:=(bO z_w).1
    have x_wp:=(bO z_wp).1
    have l_w:=(bO z_w).2.2
    have l_wp:=(bO z_wp).2.2
    go_upto_if 19 with fail
    go_cut [5] (fun s5 wx=>s5=.int .i64 (((0:Nat)+oneN c.sent d.sent+oneN c.got d.got:Nat):Int)∧hp wx w.heap.size=some (.cells (cvals c (.slice a c.cells.length p) (.slice b c.words.length q)) 27)∧hp wx (w.heap.size+1)=some (.cells (cvals d (.slice a' d.cells.length p') (.slice b' d.words.length q')) 27)∧Below w.heap.size w wx)
    case first =>
      have bn1:=oneN_le c.sent d.sent
      have bn2:=oneN_le c.got d.got
      by_cases e:c.got=d.got
      · have eb:(c.got != d.got)=false:=by simp [e]
        have o0:oneN c.got d.got=0:=by simp [oneN,e]
        clear e
        go_wp2_with fail
        go_meet
        exact ⟨by rw [o0];rfl,z_w,z_wp,hB⟩
      · have eb:(c.got != d.got)=true:=by simpa using e
        have o1:oneN c.got d.got=1:=by simp [oneN,e]
        clear e
        go_wp2_with fail
        go_meet
        exact ⟨by rw [o1];refine i64eq ?_;first|omega|(rw [IntWalk.wrap64_in _ (by omega)];omega),z_w,z_wp,hB⟩
    case rest =>
      clear z_w z_wp hB x_w x_wp l_w l_wp
      obtain ⟨rfl,z_w,z_wp,hB⟩:=hcut
      have x_w:=(bO z_w).1
      have x_wp:=(bO z_wp).1
      have l_w:=(bO z_w).2.2
      have l_wp:=(bO z_wp).2.2
      go_upto_if 26 with fail
      go_cut [5] (fun s5 wx=>s5=.int .i64 (((0:Nat)+oneN c.sent d.sent+oneN c.got d.got+oneN c.fin d.fin:Nat):Int)∧hp wx w.heap.size=some (.cells (cvals c (.slice a c.cells.length p) (.slice b c.words.length q)) 27)∧hp wx (w.heap.size+1)=some (.cells (cvals d (.slice a' d.cells.length p') (.slice b' d.words.length q')) 27)∧Below w.heap.size w wx)
      case first =>
        have bn1:=oneN_le c.sent d.sent
        have bn2:=oneN_le c.got d.got
        by_cases e:c.fin=d.fin
        · have eb:(c.fin != d.fin)=false:=by simp [e]
          have o0:oneN c.fin d.fin=0:=by simp [oneN,e]
          clear e
          go_wp2_with fail
          go_meet
          exact ⟨by rw [o0];rfl,z_w,z_wp,hB⟩
        · have eb:(c.fin != d.fin)=true:=by simpa using e
          have o1:oneN c.fin d.fin=1:=by simp [oneN,e]
          clear e
          go_wp2_with fail
          go_meet
          exact ⟨by rw [o1];refine i64eq ?_;first|omega|(rw [IntWalk.wrap64_in _ (by omega)];omega),z_w,z_wp,hB⟩
      case rest =>
        clear z_w z_wp hB x_w x_wp l_w l_wp
        obtain ⟨rfl,z_w,z_wp,hB⟩:=hcut
        have x_w:=(bO z_w).1
        have x_wp:=(bO z_wp).1
        have l_w:=(bO z_w).2.2
        have l_wp:=(bO z_wp).2.2
        obtain ⟨N,hN⟩:∃ N:Nat,N=0+oneN c.sent d.sent+oneN c.got d.got+oneN c.fin d.fin:=⟨_,rfl⟩
        have hN3:N≤3:=by have:=oneN_le c.sent d.sent;have:=oneN_le c.got d.got;have:=oneN_le c.fin d.fin;omega
        rw [← hN]
        have HN:=Lib.hid hN
        clear hN
        go_upto_block 0 with fail
        go_cut [5] (fun s5 wx=>s5=.int .i64 ((N+diffC c.cells d.cells:Nat):Int)∧hp wx w.heap.size=some (.cells (cvals c (.slice a c.cells.length p) (.slice b c.words.length q)) 27)∧hp wx (w.heap.size+1)=some (.cells (cvals d (.slice a' d.cells.length p') (.slice b' d.words.length q')) 27)∧Below w.heap.size w wx)
        case first =>
          have hB0:=hB
          go_wp2_with fail
          go_loopw [5,6] (fun n i wx=>∃ k:Nat,i=.int .i64 k∧k≤c.cells.length∧k≤d.cells.length∧n=.int .i64 ((N+diffC (c.cells.take k) (d.cells.take k):Nat):Int)∧hp wx w.heap.size=some (.cells (cvals c (.slice a c.cells.length p) (.slice b c.words.length q)) 27)∧hp wx (w.heap.size+1)=some (.cells (cvals d (.slice a' d.cells.length p') (.slice b' d.words.length q')) 27)∧Below w.heap.size w wx) (fun _ i _=>c.cells.length - (intOf i).toNat)
          case atStart=>exact ⟨0,rfl,Nat.zero_le _,Nat.zero_le _,by refine i64eq ?_;simp [diffC],z_w,z_wp,hB⟩
          case round =>
            clear z_w z_wp hB x_w x_wp l_w l_wp hB0
            obtain ⟨k,rfl,hk1,hk2,rfl,z_w,z_wp,hB⟩:=hrel
            have x_w:=(bO z_w).1
            have x_wp:=(bO z_wp).1
            have l_w:=(bO z_w).2.2
            have l_wp:=(bO z_wp).2.2
            by_cases hc:k<c.cells.length
            · have hci:(k:Int)<(c.cells.length:Int):=by omega
              have hk0:(0:Int)≤(k:Int):=by omega
              by_cases hd:k<d.cells.length
              · have hdi:(k:Int)<(d.cells.length:Int):=by omega
                have hdt:=diffC_take c.cells d.cells k hc hd
                have hle:=diffC_le (c.cells.take k) (d.cells.take k)
                rw [List.length_take] at hle
                obtain h0|⟨ba,oa,rfl,hba,hca⟩:=H1.out
                · omega
                obtain h0|⟨bb,ob,rfl,hbb,hcb⟩:=H3.out
                · omega
                have c0:=(hB.cell (p:=⟨ba,oa+k*3+0,none⟩) hba).trans (hca k 0 hc (by omega))
                have d0:=(hB.cell (p:=⟨bb,ob+k*3+0,none⟩) hbb).trans (hcb k 0 hd (by omega))
                have c1:=(hB.cell (p:=⟨ba,oa+k*3+1,none⟩) hba).trans (hca k 1 hc (by omega))
                have d1:=(hB.cell (p:=⟨bb,ob+k*3+1,none⟩) hbb).trans (hcb k 1 hd (by omega))
                have c2:=(hB.cell (p:=⟨ba,oa+k*3+2,none⟩) hba).trans (hca k 2 hc (by omega))
                have d2:=(hB.cell (p:=⟨bb,ob+k*3+2,none⟩) hbb).trans (hcb k 2 hd (by omega))
                simp only [cellF,C3.val,Nat.add_zero] at c0 c1 c2 d0 d1 d2
                clear hca hcb
                generalize c.cells.getD k ⟨0,0,0⟩=x at c0 c1 c2 hdt
                generalize d.cells.getD k ⟨0,0,0⟩=y at d0 d1 d2 hdt
                go_upto_if 53 with (go_quiet (fail))
                cases hs:sameC x y with
                | true =>
                  rw [hs] at hdt
                  have hsn:(!sameC x y)=false:=by rw [hs];rfl
                  go_wp2
                  go_roundw
                  case rel=>exact ⟨k+1,by go_num,by omega,by omega,by rw [hdt];rfl,z_w,z_wp,bDN hB _⟩
                  case measure=>simp [intOf];omega
                | false =>
                  rw [hs] at hdt
                  have hsn:(!sameC x y)=true:=by rw [hs];rfl
                  go_wp2
                  go_roundw
                  case rel=>exact ⟨k+1,by go_num,by omega,by omega,by rw [hdt];refine i64eq ?_;first|(rw [IntWalk.wrap64_in _ (by omega)];simp;omega)|(simp;omega),z_w,z_wp,bDN hB _⟩
                  case measure=>simp [intOf];omega
              · have hdi:¬ (k:Int)<(d.cells.length:Int):=by omega
                go_wp2_with fail
                go_meet
                exact ⟨by rw [diffC_end _ _ _ hk1 hk2 (.inr (by omega))];refine i64eq ?_;omega,z_w,z_wp,hB⟩
            · have hci:¬ (k:Int)<(c.cells.length:Int):=by omega
              go_wp2_with fail
              go_meet
              exact ⟨by rw [diffC_end _ _ _ hk1 hk2 (.inl (by omega))];refine i64eq ?_;omega,z_w,z_wp,hB⟩
        case rest =>
          clear z_w z_wp hB x_w x_wp l_w l_wp
          obtain ⟨rfl,z_w,z_wp,hB⟩:=hcut
          have x_w:=(bO z_w).1
          have x_wp:=(bO z_wp).1
          have l_w:=(bO z_w).2.2
          have l_wp:=(bO z_wp).2.2
          obtain ⟨M,hM⟩:∃ M:Nat,M=N+diffC c.cells d.cells:=⟨_,rfl⟩
          have hM3:M≤1048579:=by have:=diffC_le c.cells d.cells;omega
          rw [← hM]
          have HM:=Lib.hid hM
          clear hM
          go_upto_block 2 with fail
          go_cut [5] (fun s5 wx=>s5=.int .i64 ((M+diffI c.words d.words:Nat):Int)∧hp wx w.heap.size=some (.cells (cvals c (.slice a c.cells.length p) (.slice b c.words.length q)) 27)∧hp wx (w.heap.size+1)=some (.cells (cvals d (.slice a' d.cells.length p') (.slice b' d.words.length q')) 27)∧Below w.heap.size w wx)
          case first =>
            have hB0:=hB
            go_wp2_with fail
            go_loopw [5,7] (fun n i wx=>∃ k:Nat,i=.int .i64 k∧k≤c.words.length∧k≤d.words.length∧n=.int .i64 ((M+diffI (c.words.take k) (d.words.take k):Nat):Int)∧hp wx w.heap.size=some (.cells (cvals c (.slice a c.cells.length p) (.slice b c.words.length q)) 27)∧hp wx (w.heap.size+1)=some (.cells (cvals d (.slice a' d.cells.length p') (.slice b' d.words.length q')) 27)∧Below w.heap.size w wx) (fun _ i _=>c.words.length - (intOf i).toNat)
            case atStart=>exact ⟨0,rfl,Nat.zero_le _,Nat.zero_le _,by refine i64eq ?_;simp [diffI],z_w,z_wp,hB⟩
            case round =>
              clear z_w z_wp hB x_w x_wp l_w l_wp hB0
              obtain ⟨k,rfl,hk1,hk2,rfl,z_w,z_wp,hB⟩:=hrel
              have x_w:=(bO z_w).1
              have x_wp:=(bO z_wp).1
              have l_w:=(bO z_w).2.2
              have l_wp:=(bO z_wp).2.2
              by_cases hc:k<c.words.length
              · have hci:(k:Int)<(c.words.length:Int):=by omega
                have hk0:(0:Int)≤(k:Int):=by omega
                by_cases hd:k<d.words.length
                · have hdi:(k:Int)<(d.words.length:Int):=by omega
                  have hdt:=diffI_take c.words d.words k hc hd
                  have hle:=diffI_le (c.words.take k) (d.words.take k)
                  rw [List.length_take] at hle
                  obtain h0|⟨ba,oa,rfl,hba,hca⟩:=H2.out
                  · omega
                  obtain h0|⟨bb,ob,rfl,hbb,hcb⟩:=H4.out
                  · omega
                  have c0:=(hB.cell (p:=⟨ba,oa+k*1+0,none⟩) hba).trans (hca k 0 hc (by omega))
                  have d0:=(hB.cell (p:=⟨bb,ob+k*1+0,none⟩) hbb).trans (hcb k 0 hd (by omega))
                  simp only [intF,Nat.add_zero,Nat.mul_one] at c0 d0
                  clear hca hcb
                  generalize c.words.getD k 0=x at c0 hdt
                  generalize d.words.getD k 0=y at d0 hdt
                  go_upto_if 80 with (go_quiet (fail))
                  cases hs:x == y with
                  | true =>
                    rw [hs] at hdt
                    have hsn:(!x == y)=false:=by rw [hs];rfl
                    go_wp2
                    go_roundw
                    case rel=>exact ⟨k+1,by go_num,by omega,by omega,by rw [hdt];rfl,z_w,z_wp,bDN hB _⟩
                    case measure=>simp [intOf];omega
                  | false =>
                    rw [hs] at hdt
                    have hsn:(!x == y)=true:=by rw [hs];rfl
                    go_wp2
                    go_roundw
                    case rel=>exact ⟨k+1,by go_num,by omega,by omega,by rw [hdt];refine i64eq ?_;first|(rw [IntWalk.wrap64_in _ (by omega)];simp;omega)|(simp;omega),z_w,z_wp,bDN hB _⟩
                    case measure=>simp [intOf];omega
                · have hdi:¬ (k:Int)<(d.words.length:Int):=by omega
                  go_wp2_with fail
                  go_meet
                  exact ⟨by rw [diffI_end _ _ _ hk1 hk2 (.inr (by omega))];refine i64eq ?_;omega,z_w,z_wp,hB⟩
              · have hci:¬ (k:Int)<(c.words.length:Int):=by omega
                go_wp2_with fail
                go_meet
                exact ⟨by rw [diffI_end _ _ _ hk1 hk2 (.inl (by omega))];refine i64eq ?_;omega,z_w,z_wp,hB⟩
          case rest =>
            clear z_w z_wp hB x_w x_wp l_w l_wp
            obtain ⟨rfl,z_w,z_wp,hB⟩:=hcut
            have l_w:=(bO z_w).2.2
            have l_wp:=(bO z_wp).2.2
            go_wp2
            go_ret
            refine ⟨congrArg Ending.returned (i64eq ?_),by exact zB⟩
            have e1:=HM.out
            have e2:=HN.out
            unfold touchedN
            omega
end Go.Proofs.YtkiingmgpobgnaaGreat
set_option linter.unusedSimpArgs false
set_option linter.unusedVariables false
namespace Go.Proofs.YtkiingmgpobgnaaGreat
open Go.RowKit
set_option linter.unusedSimpArgs false
theorem big_any (n cap:Nat) (a:Option Addr) (w:World):Calls Tryz.prog 5 #[.slice a n cap] w fun r w'=>r=.returned (.bool (decide (4096<(n:Int))))∧w=w':=by
  go_enter Tryz.func5,Tryz.ntmps5
  go_wp2
  go_ret
  exact ⟨rfl,rfl⟩
theorem bDNl {w W:World} (h:Below w.heap.size w W) (n:Nat):Below w.heap.size w (W.drewN n):=⟨h.os,h.tape,h.output,h.size,h.block⟩
set_option maxRecDepth 100000 in
set_option maxHeartbeats 400000 in
theorem likeInts_any (l:List Int) (a a':Option Addr) (cap cap':Nat) (w:World) (h:Seg w w.heap.size a l.length 1 (intF l)) (h':Seg w w.heap.size a' l.length 1 (intF l)) (hm:l.length≤maxLen) :
    Calls Tryz.prog 34 #[.slice a l.length cap,.slice a' l.length cap'] w fun r w'=>r=.returned (.bool true)∧Below w.heap.size w w':=by
  unfold maxLen at hm
  have HS:=Lib.hid h
  have HS':=Lib.hid h'
  clear h h'
  go_enter Tryz.func34,Tryz.ntmps34
  go_wp2
  go_loopw [5] (fun i wr=>∃ k:Nat,k≤l.length∧i=.int .i64 k∧Below w.heap.size w wr) (fun i _=>l.length - (intOf i).toNat)
  case atStart=>exact ⟨0,Nat.zero_le _,rfl,Below.refl _ _⟩
  case round =>
    obtain ⟨k,hk,rfl,hB⟩:=hrel
    by_cases hlt:k<l.length
    · obtain h0|⟨b,o,rfl,hb,hc⟩:=HS.out
      · omega
      obtain h0|⟨b',o',rfl,hb',hc'⟩:=HS'.out
      · omega
      have c0:=(hB.cell (p:=⟨b,o+k*1+0,none⟩) hb).trans (hc k 0 hlt (by omega))
      have d0:=(hB.cell (p:=⟨b',o'+k*1+0,none⟩) hb').trans (hc' k 0 hlt (by omega))
      simp only [intF,Nat.add_zero,Nat.mul_one] at c0 d0
      clear hc hc'
      generalize l.getD k 0=x at c0 d0
      have hk0:(0:Int)≤(k:Int):=by omega
      have hk1:(k:Int)<(l.length:Int):=by omega
      go_wp2_with fail
      (try (go_quiet (fail)))
      go_wp2
      go_roundw
      case rel=>exact ⟨k+1,by omega,by go_num,by first|exact hB|exact bDNl hB _⟩
      case measure=>simp [intOf];omega
    · have:k=l.length:=by omega
      subst this
      go_wp2
      go_ret
      exact ⟨rfl,hB⟩
set_option maxRecDepth 100000 in
set_option maxHeartbeats 400000 in
theorem likeCells_any (cs:List C3) (a a':Option Addr) (cap cap':Nat) (w:World) (h:Seg w w.heap.size a cs.length 3 (cellF cs)) (h':Seg w w.heap.size a' cs.length 3 (cellF cs)) (hm:cs.length≤maxLen) :
    Calls Tryz.prog 33 #[.slice a cs.length cap,.slice a' cs.length cap'] w fun r w'=>r=.returned (.bool true)∧Below w.heap.size w w':=by
  unfold maxLen at hm
  have HS:=Lib.hid h
  have HS':=Lib.hid h'
  clear h h'
  go_enter Tryz.func33,Tryz.ntmps33
  go_wp2
  go_loopw [5] (fun i wr=>∃ k:Nat,k≤cs.length∧i=.int .i64 k∧Below w.heap.size w wr) (fun i _=>cs.length - (intOf i).toNat)
  case atStart=>exact ⟨0,Nat.zero_le _,rfl,Below.refl _ _⟩
  case round =>
    obtain ⟨k,hk,rfl,hB⟩:=hrel
    by_cases hlt:k<cs.length
    · obtain h0|⟨b,o,rfl,hb,hc⟩:=HS.out
      · omega
      obtain h0|⟨b',o',rfl,hb',hc'⟩:=HS'.out
      · omega
      have c0:=(hB.cell (p:=⟨b,o+k*3+0,none⟩) hb).trans (hc k 0 hlt (by omega))
      have c1:=(hB.cell (p:=⟨b,o+k*3+1,none⟩) hb).trans (hc k 1 hlt (by omega))
      have c2:=(hB.cell (p:=⟨b,o+k*3+2,none⟩) hb).trans (hc k 2 hlt (by omega))
      have d0:=(hB.cell (p:=⟨b',o'+k*3+0,none⟩) hb').trans (hc' k 0 hlt (by omega))
      have d1:=(hB.cell (p:=⟨b',o'+k*3+1,none⟩) hb').trans (hc' k 1 hlt (by omega))
      have d2:=(hB.cell (p:=⟨b',o'+k*3+2,none⟩) hb').trans (hc' k 2 hlt (by omega))
      simp only [cellF,C3.val,Nat.add_zero] at c0 c1 c2 d0 d1 d2
      clear hc hc'
      generalize hcg:cs.getD k ⟨0,0,0⟩=c at c0 c1 c2 d0 d1 d2
      have HC:=Lib.hid hcg
      clear hcg
      have hk0:(0:Int)≤(k:Int):=by omega
      have hk1:(k:Int)<(cs.length:Int):=by omega
      go_wp2_with fail
      (try (go_quiet (fail)))
      go_wp2
      go_roundw
      case rel=>exact ⟨k+1,by omega,by go_num,by first|exact hB|exact bDNl hB _⟩
      case measure=>simp [intOf];omega
    · have:k=cs.length:=by omega
      subst this
      go_wp2
      go_ret
      exact ⟨rfl,hB⟩
set_option maxRecDepth 100000 in
set_option maxHeartbeats 1000000 in
theorem likeChan_any (c:Ch) (a b a' b':Option Addr) (p q p' q':Nat) (w:World) (h1:Seg w w.heap.size a c.cells.length 3 (cellF c.cells)) (h2:Seg w w.heap.size b c.words.length 1 (intF c.words)) (h3:Seg w w.heap.size a' c.cells.length 3 (cellF c.cells)) (h4:Seg w w.heap.size b' c.words.length 1 (intF c.words)) (m1:c.cells.length≤maxLen) (m2:c.words.length≤maxLen) :
    Calls Tryz.prog 9 #[.agg #[.int .i64 c.cap,.int .i64 c.sent,.int .i64 c.got,.int .i64 c.fin,.slice a c.cells.length p,.slice b c.words.length q],.agg #[.int .i64 c.cap,.int .i64 c.sent,.int .i64 c.got,.int .i64 c.fin,.slice a' c.cells.length p',.slice b' c.words.length q']] w fun r w'=>r=.returned (.bool true)∧Below w.heap.size w w':=by
  have H1:=Lib.hid h1
  have H2:=Lib.hid h2
  have H3:=Lib.hid h3
  have H4:=Lib.hid h4
  have M1:=Lib.hid m1
  have M2:=Lib.hid m2
  clear h1 h2 h3 h4 m1 m2
  go_enter Tryz.func9,Tryz.ntmps9
  go_wp2_with fail;refine bHit w (by exact zB) fun bb=>?_;refine (likeCells_any c.cells a a' p p' _ ((H1.out.below bb).more bb.size) ((H3.out.below bb).more bb.size) M1.out).mono ?_;rintro _ w1 ⟨rfl,hbw1⟩;have hCw1:Below w.heap.size w w1:=bT bb hbw1;have hsw1:=hbw1.size;(try simp at hsw1);have zz:=And.intro (fun o=>hbw1.cell (p:=⟨w.heap.size+1,o,none⟩) (by (try simp) <;> omega)) <| And.intro (fun o=>hbw1.frozen (p:=⟨w.heap.size+1,o,none⟩) (by (try simp) <;> omega)) <| And.intro (fun o=>hbw1.cell (p:=⟨w.heap.size,o,none⟩) (by (try simp) <;> omega)) <| fun o=>hbw1.frozen (p:=⟨w.heap.size,o,none⟩) (by (try simp) <;> omega);(try simp [go_sem] at zz);(try clear x_wp f_wp);(try clear x_w f_w);obtain ⟨x_wp,f_wp,x_w,f_w⟩:=zz;(try clear l_wp);have l_wp:w.heap.size+1<w1.heap.size:=(by omega);(try clear l_w);have l_w:w.heap.size<w1.heap.size:=(by omega);clear hbw1 bb
  go_wp2_with fail;refine bHit w (by exact zB) fun bb=>?_;refine (likeInts_any c.words b b' q q' _ ((H2.out.below bb).more bb.size) ((H4.out.below bb).more bb.size) M2.out).mono ?_;rintro _ w2 ⟨rfl,hbw2⟩;have hCw2:Below w.heap.size w w2:=bT bb hbw2;have hsw2:=hbw2.size;(try simp at hsw2);have zz:=And.intro (fun o=>hbw2.cell (p:=⟨w.heap.size+1,o,none⟩) (by (try simp) <;> omega)) <| And.intro (fun o=>hbw2.frozen (p:=⟨w.heap.size+1,o,none⟩) (by (try simp) <;> omega)) <| And.intro (fun o=>hbw2.cell (p:=⟨w.heap.size,o,none⟩) (by (try simp) <;> omega)) <| fun o=>hbw2.frozen (p:=⟨w.heap.size,o,none⟩) (by (try simp) <;> omega);(first|simp [go_sem,x_wp,f_wp,x_w,f_w,l_w,l_wp] at zz|simp [go_sem,x_wp,x_w,l_w,l_wp] at zz|simp [go_sem] at zz|skip);(try clear x_wp f_wp);(try clear x_w f_w);obtain ⟨x_wp,f_wp,x_w,f_w⟩:=zz;(try clear l_wp);have l_wp:w.heap.size+1<w2.heap.size:=(by omega);(try clear l_w);have l_w:w.heap.size<w2.heap.size:=(by omega);clear hbw2 bb
  go_wp2
  go_ret
  exact ⟨rfl,by exact zB⟩
end Go.Proofs.YtkiingmgpobgnaaGreat
set_option linter.unusedSimpArgs false
set_option linter.unusedVariables false
namespace Go.Proofs.YtkiingmgpobgnaaGreat
open Go.RowKit
set_option maxHeartbeats 400000 in
theorem inRange_any (n m:Int) (w:World):Calls Tryz.prog 35 #[.int .i64 n,.int .i64 m] w fun e w'=>e=.returned (.bool (inB n 0 m))∧w=w':=by
  go_enter Tryz.func35,Tryz.ntmps35
  go_wp2
  all_goals go_ret
  · exact ⟨ret_bool (inB_lo ‹_›),rfl⟩
  · exact ⟨ret_bool (inB_no (.inl ‹_›)).symm,rfl⟩
def Named (n:Int) (e:Ending):Prop:=∃ s:ByteArray,e=.returned (.string s)∧s.toList.isEmpty=!(inB n 0 10)
theorem named_yes {n:Int} (s:ByteArray) (hs:s.data.size≠0) (h1:0≤n) (h2:n≤10):Named n (.returned (.string s)):=⟨_,rfl,by
  obtain ⟨⟨l⟩⟩:=s
  rw [inB_yes h1 h2]
  cases l with
  | nil=>simp at hs
  | cons a l=>simp⟩
theorem named_no {n:Int} (h:n<0∨10<n):Named n (.returned (.string ⟨#[]⟩)):=⟨_,rfl,by rw [inB_no h];simp⟩
set_option maxHeartbeats 400000 in
theorem string_any (n:Int) (w:World):Calls Tryz.prog 103 #[.int .i64 n] w fun e w'=>Named n e∧w=w':=by
  by_cases h:0≤n∧n≤10
  · have hn:n=0∨n=1∨n=2∨n=3∨n=4∨n=5∨n=6∨n=7∨n=8∨n=9∨n=10:=by omega
    clear h
    rcases hn with rfl|rfl|rfl|rfl|rfl|rfl|rfl|rfl|rfl|rfl|rfl
    all_goals
      go_enter Tryz.func103,Tryz.ntmps103
      go_wp2
      go_ret
      exact ⟨named_yes _ (by decide) (by omega) (by omega),rfl⟩
  · have h0:(n == 0)=false:=by simp;omega
    have h1:(n == 1)=false:=by simp;omega
    have h2:(n == 2)=false:=by simp;omega
    have h3:(n == 3)=false:=by simp;omega
    have h4:(n == 4)=false:=by simp;omega
    have h5:(n == 5)=false:=by simp;omega
    have h6:(n == 6)=false:=by simp;omega
    have h7:(n == 7)=false:=by simp;omega
    have h8:(n == 8)=false:=by simp;omega
    have h9:(n == 9)=false:=by simp;omega
    have h10:(n == 10)=false:=by simp;omega
    have H:=Lib.hid h
    clear h
    go_enter Tryz.func103,Tryz.ntmps103
    go_wp2
    go_ret
    exact ⟨named_no (by have:=H.out;omega),rfl⟩
set_option maxHeartbeats 400000 in
theorem cellOk_any (s e t:Int) (w:World):Calls Tryz.prog 68 #[.agg #[.int .i64 s,.int .i64 e,.int .i64 t]] w fun r w'=>r=.returned (.bool (cellB s e t))∧Below w.heap.size w w':=by
  go_enter Tryz.func68,Tryz.ntmps68
  go_wp2_with (first|(go_at_call 103;refine (string_any _ _).mono ?_;rintro r1 w1 ⟨⟨s1,rfl,hs⟩,rfl⟩)|(go_at_call 35;refine (inRange_any _ _ _).mono ?_;rintro _ _ ⟨rfl,rfl⟩))
  all_goals go_ret
  all_goals refine ⟨ret_bool ?_,by exact zB⟩
  · exact cellB_3 ‹_› ‹_›
  · exact cellB_2 ‹_›
  · exact cellB_1 ‹_›
end Go.Proofs.YtkiingmgpobgnaaGreat
set_option linter.unusedSimpArgs false
set_option linter.unusedVariables false
namespace Go.Proofs.YtkiingmgpobgnaaGreat
open Go.RowKit
set_option maxRecDepth 100000 in
theorem cutI (n:Nat) (hn:n≤40) (g:Nat) (W:World):(Instr.sliceAt 67 (.pointer (some ⟨g,0,none⟩)) none (some (.int .i64 n)) (some (.int .i64 n))).run Tryz.prog W=.ok (.slice (some ⟨g,0,none⟩) n n) W:=by
  have hl:Tryz.prog.arrayLen 67=40:=by kernel_rfl
  rw [run_sliceAt_array_hm (P:=Tryz.prog) W 67 ⟨g,0,none⟩ Tryz.underlying67 .i64 .i64 n n (by omega) (by omega) (by omega)]
  simp [go_sem,slicedAt]
set_option maxRecDepth 100000 in
theorem cutI_any (n:Nat) (hn:n≤40) (g:Nat) (w:World):Calls Tryz.prog 47 #[.pointer (some ⟨g,0,none⟩),.int .i64 n] w fun r w'=>r=.returned (.slice (some ⟨g,0,none⟩) n n)∧w=w':=by
  have hcut:=cutI n hn g
  go_enter Tryz.func47,Tryz.ntmps47
  go_wp2
  go_ret
  exact ⟨rfl,rfl⟩
def wordsB (l:List Int):Bool:=decide (l.length≤80) && l.all (fun x=>inB x 0 2)
def cellsB (n:Nat) (cs:List C3):Bool:=decide (cs.length=40) && cs.all (cellFits n)
def countB (c:Ch):Bool:=inB c.sent 0 40 && (inB c.got 0 40 && inB c.fin 0 40)
theorem chanOk_parts (c:Ch):chanOk c=(inB c.cap 0 4 && (countB c && (wordsB c.words && cellsB c.words.length c.cells))):=by
  unfold chanOk chanHead countB wordsB cellsB
  cases inB c.cap 0 4 <;> cases inB c.sent 0 40 <;> cases inB c.got 0 40 <;> cases inB c.fin 0 40 <;> cases decide (c.cells.length=40) <;> cases decide (c.words.length≤80) <;> cases c.cells.all (cellFits c.words.length) <;> cases c.words.all (fun x=>inB x 0 2) <;> rfl
set_option maxRecDepth 100000 in
theorem countersOk_any (c:Ch) (v1 v2:Value) (w:World) :
    Calls Tryz.prog 36 #[.agg #[.int .i64 c.cap,.int .i64 c.sent,.int .i64 c.got,.int .i64 c.fin,v1,v2]] w fun r w'=>r=.returned (.bool (countB c))∧Below w.heap.size w w':=by
  go_enter Tryz.func36,Tryz.ntmps36
  go_wp2_with (go_at_call 35;refine (inRange_any _ _ _).mono ?_;rintro _ _ ⟨rfl,rfl⟩)
  all_goals go_ret
  all_goals exact ⟨ret_bool (by simp [countB, *]),by exact zB⟩
theorem wordsB_bad {l:List Int} {k:Nat} {x:Int} (hk:k<l.length) (hc:l.getD k 0=x) (h:inB x 0 2=false):false=wordsB l:=by
  have:l.all (fun x=>inB x 0 2)=false:=by
    rw [List.all_eq_false]
    refine ⟨l[k],List.getElem_mem hk,?_⟩
    rw [← hc] at h
    simpa [List.getD,List.getElem?_eq_getElem hk] using h
  simp [wordsB,this]
theorem wordsB_end {l:List Int} (h:l.length≤80) (h2:(l.take l.length).all (fun x=>inB x 0 2)=true):true=wordsB l:=by
  rw [List.take_length] at h2
  simp only [wordsB,h2,h,decide_true];rfl
set_option maxRecDepth 100000 in
set_option maxHeartbeats 400000 in
theorem wordsOk_any (l:List Int) (a:Option Addr) (p:Nat) (w:World) (h:Seg w w.heap.size a l.length 1 (intF l)) (hm:l.length≤maxLen) :
    Calls Tryz.prog 37 #[.slice a l.length p] w fun r w'=>r=.returned (.bool (wordsB l))∧Below w.heap.size w w':=by
  unfold maxLen at hm
  by_cases hlen:80<l.length
  · have hV:Hid (false=wordsB l):=by simp [wordsB,Hid];omega
    go_enter Tryz.func37,Tryz.ntmps37
    go_wp2
    go_ret
    exact ⟨ret_bool hV.out,Below.refl _ _⟩
  · have hd:decide (80<(l.length:Int))=false:=by simp;omega
    have hle:l.length≤80:=by omega
    clear hlen
    have HS:=Lib.hid h
    clear h
    go_enter Tryz.func37,Tryz.ntmps37
    go_wp2
    go_loopw [10] (fun i wr=>∃ k:Nat,k≤l.length∧i=.int .i64 k∧Hid ((l.take k).all (fun x=>inB x 0 2)=true)∧Below w.heap.size w wr) (fun i _=>l.length - (intOf i).toNat)
    case atStart=>exact ⟨0,Nat.zero_le _,rfl,rfl,Below.refl _ _⟩
    case round =>
      obtain ⟨k,hk,rfl,hall,hB⟩:=hrel
      by_cases hlt:k<l.length
      · obtain h0|⟨b,o,rfl,hb,hc⟩:=HS.out
        · omega
        have c0:=(hB.cell (p:=⟨b,o+k*1+0,none⟩) hb).trans (hc k 0 hlt (by omega))
        simp only [intF,Nat.add_zero,Nat.mul_one] at c0
        clear hc
        generalize hcg:l.getD k 0=x at c0
        have HC:=Lib.hid hcg
        clear hcg
        go_wp2_with (go_at_call 35;refine (inRange_any _ _ _).mono ?_;rintro _ _ ⟨rfl,rfl⟩)
        · go_ret
          exact ⟨ret_bool (wordsB_bad hlt HC.out (not_true ‹_›)),hB⟩
        · go_roundw
          case rel=>exact ⟨k+1,by omega,by go_num,words_snoc hlt HC.out hall.out (not_false ‹_›),hB⟩
          case measure=>simp [intOf];omega
      · have:k=l.length:=by omega
        subst this
        go_wp2
        go_ret
        exact ⟨ret_bool (wordsB_end hle hall.out),hB⟩
theorem cellsB_bad {n:Nat} {cs:List C3} {k:Nat} {c:C3} (hk:k<cs.length) (hc:cs.getD k ⟨0,0,0⟩=c) (h:cellFits n c=false):false=cellsB n cs:=by
  have:cs.all (cellFits n)=false:=by
    rw [List.all_eq_false]
    refine ⟨cs[k],List.getElem_mem hk,?_⟩
    rw [← hc] at h
    simpa [List.getD,List.getElem?_eq_getElem hk] using h
  simp [cellsB,this]
theorem cellsB_end {n:Nat} {cs:List C3} (h:cs.length=40) (h2:(cs.take cs.length).all (cellFits n)=true):true=cellsB n cs:=by
  rw [List.take_length] at h2
  simp only [cellsB,h2,h,decide_true];rfl
theorem cellsB_snoc {n:Nat} {cs:List C3} {k:Nat} {c:C3} (hk:k<cs.length) (hc:cs.getD k ⟨0,0,0⟩=c) (h:(cs.take k).all (cellFits n)=true) (h1:cellFits n c=true):(cs.take (k+1)).all (cellFits n)=true:=by
  rw [take_snocC cs k hk,hc,List.all_append,h];simp [h1]
set_option maxRecDepth 100000 in
set_option maxHeartbeats 400000 in
theorem cellsOk_any (n:Nat) (cs:List C3) (a:Option Addr) (p:Nat) (w:World) (h:Seg w w.heap.size a cs.length 3 (cellF cs)) (hm:cs.length≤maxLen) :
    Calls Tryz.prog 38 #[.slice a cs.length p,.int .i64 n] w fun r w'=>r=.returned (.bool (cellsB n cs))∧Below w.heap.size w w':=by
  unfold maxLen at hm
  by_cases hlen:cs.length=40
  · have hd:((cs.length:Int) != 40)=false:=by simp;omega
    have hle:cs.length≤40:=by omega
    have HL:=Lib.hid hlen
    clear hlen
    have HS:=Lib.hid h
    clear h
    go_enter Tryz.func38,Tryz.ntmps38
    go_wp2
    go_loopw [12] (fun i wr=>∃ k:Nat,k≤cs.length∧i=.int .i64 k∧Hid ((cs.take k).all (cellFits n)=true)∧Below w.heap.size w wr) (fun i _=>cs.length - (intOf i).toNat)
    case atStart=>exact ⟨0,Nat.zero_le _,rfl,rfl,Below.refl _ _⟩
    case round =>
      obtain ⟨k,hk,rfl,hall,hB⟩:=hrel
      have hs:=hB.size
      by_cases hlt:k<cs.length
      · obtain h0|⟨b,o,rfl,hb,hc⟩:=HS.out
        · omega
        have c0:=(hB.cell (p:=⟨b,o+k*3+0,none⟩) hb).trans (hc k 0 hlt (by omega))
        have c1:=(hB.cell (p:=⟨b,o+k*3+1,none⟩) hb).trans (hc k 1 hlt (by omega))
        have c2:=(hB.cell (p:=⟨b,o+k*3+2,none⟩) hb).trans (hc k 2 hlt (by omega))
        simp only [cellF,C3.val,Nat.add_zero] at c0 c1 c2
        clear hc
        generalize hcg:cs.getD k ⟨0,0,0⟩=c at c0 c1 c2
        have HC:=Lib.hid hcg
        clear hcg
        go_wp2_with (go_at_call 68;refine (cellOk_any _ _ _ _).mono ?_;rintro _ w1 ⟨rfl,hbw1⟩;have hBw1:Below w.heap.size w w1:=bT (by exact zB) hbw1;have hsw1:=hbw1.size;(try (simp at hsw1));have:=fun o=>hbw1.cell (p:=⟨wr.heap.size,o,none⟩) (by ((try simp);(try omega)));have:=fun o=>hbw1.frozen (p:=⟨wr.heap.size,o,none⟩) (by ((try simp);(try omega)));have:wr.heap.size<w1.heap.size:=(by omega);have:wr.heap.size≤w1.heap.size:=(by omega);have:wr.heap.size≤w1.heap.size+1:=(by omega))
        all_goals first
          | (go_ret;exact ⟨ret_bool (cellsB_bad hlt HC.out (by simp_all [cellFits,okC])),by exact zB⟩)
          | (go_roundw
             case rel=>exact ⟨k+1,by omega,by go_num,cellsB_snoc hlt HC.out hall.out (by simp_all [cellFits,okC]),by exact zB⟩
             case measure=>simp [intOf];omega)
      · have:k=cs.length:=by omega
        subst this
        go_wp2
        go_ret
        exact ⟨ret_bool (cellsB_end HL.out hall.out),hB⟩
  · have hd:((cs.length:Int) != 40)=true:=by simp;omega
    have hV:Hid (false=cellsB n cs):=by simp [cellsB,Hid,hlen]
    clear hlen
    go_enter Tryz.func38,Tryz.ntmps38
    go_wp2
    go_ret
    exact ⟨ret_bool hV.out,Below.refl _ _⟩
set_option maxRecDepth 100000 in
set_option maxHeartbeats 400000 in
theorem chanOk_any (c:Ch) (a b:Option Addr) (p q:Nat) (w:World) (h1:Seg w w.heap.size a c.cells.length 3 (cellF c.cells)) (h2:Seg w w.heap.size b c.words.length 1 (intF c.words)) (m1:c.cells.length≤maxLen) (m2:c.words.length≤maxLen) :
    Calls Tryz.prog 10 #[.agg #[.int .i64 c.cap,.int .i64 c.sent,.int .i64 c.got,.int .i64 c.fin,.slice a c.cells.length p,.slice b c.words.length q]] w fun r w'=>r=.returned (.bool (chanOk c))∧Below w.heap.size w w':=by
  rw [chanOk_parts]
  have H1:=Lib.hid h1
  have H2:=Lib.hid h2
  have M1:=Lib.hid m1
  have M2:=Lib.hid m2
  clear h1 h2 m1 m2
  go_enter Tryz.func10,Tryz.ntmps10
  go_wp2_with (first|(go_at_call 35;refine (inRange_any _ _ _).mono ?_;rintro _ _ ⟨rfl,rfl⟩)|(go_at_call 36;refine (countersOk_any c _ _ _).mono ?_;rintro _ w1 ⟨rfl,hbw1⟩;have hBw1:Below w.heap.size w w1:=bT (by exact zB) hbw1;have hsw1:=hbw1.size;(try (simp at hsw1));have:=fun o=>hbw1.cell (p:=⟨w.heap.size,o,none⟩) (by ((try simp);(try omega)));have:=fun o=>hbw1.frozen (p:=⟨w.heap.size,o,none⟩) (by ((try simp);(try omega)));have:w.heap.size<w1.heap.size:=(by omega);have:w.heap.size≤w1.heap.size:=(by omega);have:w.heap.size≤w1.heap.size+1:=(by omega))|(go_at_call 37;refine (wordsOk_any c.words b q _ ((H2.out.below (by exact zB)).more (by (try simp);omega)) M2.out).mono ?_;rintro _ w2 ⟨rfl,hb2⟩;have hB2:Below w.heap.size w w2:=bT (by exact zB) hb2;have hs2:=hb2.size;have:=fun o=>hb2.cell (p:=⟨w.heap.size,o,none⟩) (by (try simp);omega))|(go_at_call 38;refine (cellsOk_any c.words.length c.cells a p _ ((H1.out.below (by exact zB)).more (by (try simp);omega)) M1.out).mono ?_;rintro _ w3 ⟨rfl,hb3⟩;have hB3:Below w.heap.size w w3:=bT (by exact zB) hb3))
  all_goals go_ret
  all_goals exact ⟨ret_bool (by simp [*]),by exact zB⟩
end Go.Proofs.YtkiingmgpobgnaaGreat
set_option linter.unusedSimpArgs false
set_option linter.unusedVariables false
namespace Go.Proofs.YtkiingmgpobgnaaGreat
open Go.RowKit
theorem atFrom_snoc (st:Int) (c:C3):∀ (l:List C3) (n:Nat),atFrom st n (l ++ [c])=atFrom st n l ++ (if c.s == st then [((n+l.length:Nat):Int)] else [])
  | [],n=>by simp [atFrom]
  | d :: l,n=>by
    have h:=atFrom_snoc st c l (n+1)
    have e:n+1+l.length=n+(d :: l).length:=by simp;omega
    rw [e] at h
    simp only [List.cons_append,atFrom]
    split <;> simp [h]
theorem atFrom_len (st:Int):∀ (l:List C3) (n:Nat),(atFrom st n l).length≤l.length
  | [],n=>by simp [atFrom]
  | d :: l,n=>by
    have h:=atFrom_len st l (n+1)
    simp only [atFrom]
    split <;> simp <;> omega
def atTo (cells:List C3) (st:Int) (k:Nat):List Int:=atFrom st 0 (cells.take k)
theorem atTo_0 (cells:List C3) (st:Int):atTo cells st 0=[]:=by simp [atTo,atFrom]
theorem atTo_yes {cells:List C3} {st:Int} {k:Nat} {c:C3} (hk:k<cells.length) (hc:cells.getD k ⟨0,0,0⟩=c) (h:(c.s == st)=true):atTo cells st (k+1)=atTo cells st k ++ [(k:Int)]:=by
  unfold atTo
  rw [take_snocC cells k hk,hc,atFrom_snoc,if_pos h,List.length_take_of_le (by omega)];simp
theorem atTo_no {cells:List C3} {st:Int} {k:Nat} {c:C3} (hk:k<cells.length) (hc:cells.getD k ⟨0,0,0⟩=c) (h:(c.s == st)=false):atTo cells st (k+1)=atTo cells st k:=by
  unfold atTo
  rw [take_snocC cells k hk,hc,atFrom_snoc,h];simp
theorem atTo_end (c:Ch) (st:Int):atTo c.cells st c.cells.length=atS c st:=by simp [atTo,atS]
theorem atTo_len (cells:List C3) (st:Int) (k:Nat):(atTo cells st k).length≤k:=by
  have h:=atFrom_len st (cells.take k) 0
  have:=List.length_take_le k cells
  unfold atTo;omega
end Go.Proofs.YtkiingmgpobgnaaGreat
set_option linter.unusedSimpArgs false
set_option linter.unusedVariables false
namespace Go.Proofs.YtkiingmgpobgnaaGreat
open Go.RowKit
theorem Lie.take {w:World} {b n m k:Nat} {f:Nat→Nat→Value} (h:Lie w b n k f) (hm:m≤n):Lie w b m k f:=by
  obtain ⟨c,t,hb,hn,hc⟩:=h
  exact ⟨c,t,hb,Nat.le_trans (Nat.mul_le_mul_right k hm) hn,fun i j hi hj=>hc i j (by omega) hj⟩
theorem Lie.alloc {w:World} {b n k:Nat} {f:Nat→Nat→Value} (h:Lie w b n k f) (o:Obj):Lie (w.alloc o) b n k f:=h.of_block (Below.heap_alloc w o b h.lt)
theorem intF_snoc (l:List Int) (x:Int) (i j:Nat):(if i=l.length then Value.int .i64 x else intF l i j)=intF (l ++ [x]) i j:=by
  unfold intF
  by_cases e:i=l.length
  · subst e;simp [List.getD]
  · rw [if_neg e]
    by_cases e2:i<l.length
    · simp [List.getD,List.getElem?_append_left e2]
    · have h1:l[i]?=none:=List.getElem?_eq_none (by omega)
      have h2:(l ++ [x])[i]?=none:=List.getElem?_eq_none (by simp;omega)
      simp [List.getD,h1,h2]
set_option maxRecDepth 100000 in
theorem lie_row (w:World) (g:Nat) (h:g=w.heap.size):Lie (w.alloc (.cells #[.int .i64 0,.int .i64 0,.int .i64 0,.int .i64 0,.int .i64 0,.int .i64 0,.int .i64 0,.int .i64 0,.int .i64 0,.int .i64 0,.int .i64 0,.int .i64 0,.int .i64 0,.int .i64 0,.int .i64 0,.int .i64 0,.int .i64 0,.int .i64 0,.int .i64 0,.int .i64 0,.int .i64 0,.int .i64 0,.int .i64 0,.int .i64 0,.int .i64 0,.int .i64 0,.int .i64 0,.int .i64 0,.int .i64 0,.int .i64 0,.int .i64 0,.int .i64 0,.int .i64 0,.int .i64 0,.int .i64 0,.int .i64 0,.int .i64 0,.int .i64 0,.int .i64 0,.int .i64 0] 67)) g 40 1 (intF []):=by
  subst h
  refine ⟨_,_,heap_alloc_new w _,by simp,fun i j hi hj=>?_⟩
  have:j=0:=by omega
  subst this
  have e:(#[Value.int .i64 0,.int .i64 0,.int .i64 0,.int .i64 0,.int .i64 0,.int .i64 0,.int .i64 0,.int .i64 0,.int .i64 0,.int .i64 0,.int .i64 0,.int .i64 0,.int .i64 0,.int .i64 0,.int .i64 0,.int .i64 0,.int .i64 0,.int .i64 0,.int .i64 0,.int .i64 0,.int .i64 0,.int .i64 0,.int .i64 0,.int .i64 0,.int .i64 0,.int .i64 0,.int .i64 0,.int .i64 0,.int .i64 0,.int .i64 0,.int .i64 0,.int .i64 0,.int .i64 0,.int .i64 0,.int .i64 0,.int .i64 0,.int .i64 0,.int .i64 0,.int .i64 0,.int .i64 0]:Array Value)=Array.replicate 40 (.int .i64 0):=rfl
  rw [e]
  simp [intF,hi]
set_option maxRecDepth 100000 in
set_option maxHeartbeats 1000000 in
theorem waitingIn_any (c:Ch) (st:Int) (a b:Option Addr) (p q:Nat) (w:World) (h1:Seg w w.heap.size a c.cells.length 3 (cellF c.cells)) (h2:Seg w w.heap.size b c.words.length 1 (intF c.words)) (m1:c.cells.length≤maxLen) (m2:c.words.length≤maxLen) :
    Calls Tryz.prog 18 #[.agg #[.int .i64 c.cap,.int .i64 c.sent,.int .i64 c.got,.int .i64 c.fin,.slice a c.cells.length p,.slice b c.words.length q],.int .i64 st] w fun r w'=>(∃ v,r=.returned v∧NewI w' w.heap.size v (waitingIn c st))∧Below w.heap.size w w':=by
  have H1:=Lib.hid h1
  have H2:=Lib.hid h2
  have M1:=Lib.hid m1
  have M2:=Lib.hid m2
  clear h1 h2 m1 m2
  by_cases hc:chanOk c=true
  · have HV:Hid (atTo c.cells st c.cells.length=waitingIn c st):=by simp [waitingIn,hc,Hid,atTo_end]
    have h40:c.cells.length≤40:=by
      have:=chanOk_parts c ▸ hc
      simp [cellsB] at this
      omega
    go_enter Tryz.func18,Tryz.ntmps18
    go_wp2_with fail
    refine (chanOk_any c a b p q _ (((H1.out).below (by exact zB)).more (by simp)) (((H2.out).below (by exact zB)).more (by simp)) M1.out M2.out).mono ?_
    rintro _ w1 ⟨rfl,hb1⟩
    have hB1:Below w.heap.size w w1:=bT (by exact zB) hb1
    have hs1:=hb1.size
    simp at hs1
    have:=fun o=>hb1.cell (p:=⟨w.heap.size,o,none⟩) (by simp)
    have:w.heap.size<w1.heap.size:=by omega
    clear hb1
    have hL0:=lie_row w1 w1.heap.size rfl
    have HLL:=Lib.hid hL0
    clear hL0
    go_wp2_with fail
    go_loopw [6,15] (fun n i wr=>∃ k:Nat,k≤c.cells.length∧i=.int .i64 k∧n=.int .i64 (atTo c.cells st k).length∧Lie wr w1.heap.size 40 1 (intF (atTo c.cells st k))∧Below w.heap.size w wr) (fun _ i _=>c.cells.length - (intOf i).toNat)
    case atStart=>exact ⟨0,Nat.zero_le _,rfl,by simp [atTo_0],by rw [atTo_0];exact HLL.out,by exact zB⟩
    case round =>
      obtain ⟨k,hk,rfl,rfl,hL,hB⟩:=hrel
      have hs:=hB.size
      have hl:=hL.lt
      by_cases hlt:k<c.cells.length
      · obtain h0|⟨bb,bo,rfl,hb,hcc⟩:=H1.out
        · omega
        have c0:=(hB.cell (p:=⟨bb,bo+k*3+0,none⟩) hb).trans (hcc k 0 hlt (by omega))
        have c1:=(hB.cell (p:=⟨bb,bo+k*3+1,none⟩) hb).trans (hcc k 1 hlt (by omega))
        have c2:=(hB.cell (p:=⟨bb,bo+k*3+2,none⟩) hb).trans (hcc k 2 hlt (by omega))
        simp only [cellF,C3.val,Nat.add_zero] at c0 c1 c2
        clear hcc
        generalize hcg:c.cells.getD k ⟨0,0,0⟩=d at c0 c1 c2
        have HC:=Lib.hid hcg
        clear hcg
        have hle:=atTo_len c.cells st k
        have e0:=hL.cell (i:=(atTo c.cells st k).length) (j:=0) (by omega) (by omega)
        simp only [Nat.add_zero,Nat.mul_one] at e0
        have f1:=hL.frozen
        have hn0:(0:Int)≤((atTo c.cells st k).length:Int):=by omega
        have hn1:((atTo c.cells st k).length:Int)<40:=by omega
        go_wp2
        · go_roundw
          case rel=>exact ⟨k+1,by omega,by go_num,by rw [atTo_yes hlt HC.out ‹_›];simp,by rw [atTo_yes hlt HC.out ‹_›];exact ((hL.set1 (by omega) (.int .i64 k)).congr (fun i j _ _=>intF_snoc _ _ i j)).alloc _,by exact zB⟩
          case measure=>simp [intOf];omega
        · go_roundw
          case rel=>exact ⟨k+1,by omega,by go_num,by rw [atTo_no hlt HC.out ‹_›],by rw [atTo_no hlt HC.out ‹_›];exact hL.alloc _,by exact zB⟩
          case measure=>simp [intOf];omega
      · have:k=c.cells.length:=by omega
        subst this
        have hle:=atTo_len c.cells st c.cells.length
        go_wp2_with (go_at_call 47;refine (cutI_any (atTo c.cells st c.cells.length).length (by omega) _ _).mono ?_;rintro _ _ ⟨rfl,rfl⟩)
        go_ret
        exact ⟨⟨_,rfl,HV.out ▸ .inr ⟨_,_,rfl,by omega,hL.take (by omega)⟩⟩,hB⟩
  · have HV:Hid ([]=waitingIn c st):=by simp [waitingIn,hc,Hid]
    go_enter Tryz.func18,Tryz.ntmps18
    go_wp2_with fail
    refine (chanOk_any c a b p q _ (((H1.out).below (by exact zB)).more (by simp)) (((H2.out).below (by exact zB)).more (by simp)) M1.out M2.out).mono ?_
    rintro _ w1 ⟨rfl,hb1⟩
    have hB1:Below w.heap.size w w1:=bT (by exact zB) hb1
    go_wp2
    go_ret
    exact ⟨⟨_,rfl,HV.out ▸ .inl ⟨rfl,rfl⟩⟩,hB1⟩
end Go.Proofs.YtkiingmgpobgnaaGreat
set_option linter.unusedSimpArgs false
set_option linter.unusedVariables false
namespace Go.Proofs.YtkiingmgpobgnaaGreat
open Go.RowKit
set_option maxHeartbeats 400000 in
theorem isWaiter_any (c:Ch) (v:Int) (b:Option Addr) (q:Nat) (w:World) :
    Calls Tryz.prog 46 #[.slice b c.words.length q,.int .i64 v] w fun r w'=>r=.returned (.bool (hasW c v))∧Below w.heap.size w w':=by
  go_enter Tryz.func46,Tryz.ntmps46
  go_wp2
  all_goals go_ret
  all_goals exact ⟨ret_bool (by simp [hasW,inB, *] <;> omega),by exact zB⟩
set_option maxRecDepth 100000 in
set_option maxHeartbeats 1000000 in
theorem wordOf_any (c:Ch) (v:Int) (a b:Option Addr) (p q:Nat) (w:World) (h1:Seg w w.heap.size a c.cells.length 3 (cellF c.cells)) (h2:Seg w w.heap.size b c.words.length 1 (intF c.words)) (m1:c.cells.length≤maxLen) (m2:c.words.length≤maxLen) :
    Calls Tryz.prog 16 #[.agg #[.int .i64 c.cap,.int .i64 c.sent,.int .i64 c.got,.int .i64 c.fin,.slice a c.cells.length p,.slice b c.words.length q],.int .i64 v] w fun r w'=>r=.returned (.int .i64 (wordOf c v))∧Below w.heap.size w w':=by
  have H1:=Lib.hid h1
  have H2:=Lib.hid h2
  have m3:=m2
  unfold maxLen at m3
  clear h1 h2
  by_cases hc:chanOk c=true
  · by_cases hh:hasW c v=true
    · obtain ⟨v1,v2⟩:=hasW_iff.1 hh
      obtain ⟨i,rfl⟩:∃ i:Nat,v=(i:Int)+1:=⟨(v - 1).toNat,by omega⟩
      have hi:i<c.words.length:=by omega
      obtain ⟨bb,bo,rfl,hb,hcell⟩:∃ b' o,b=some ⟨b',o,none⟩∧b'<w.heap.size∧w.cell? ⟨b',o+i,none⟩=some (.int .i64 (c.words.getD i 0)):=by
        rcases H2.out with h0|⟨b',o',e,h1,h2⟩
        · omega
        · exact ⟨b',o',e,h1,by simpa [intF] using h2 i 0 hi (by omega)⟩
      have HV:=Lib.hid (wordOf_yes hc hh)
      have e:wordAt c ((i:Int)+1)=c.words.getD i 0:=by simp [wordAt]
      have HE:=Lib.hid e
      clear e
      generalize c.words.getD i 0=x at hcell HE
      have hi0:(0:Int)≤(i:Int):=by omega
      have hi1:(i:Int)<(c.words.length:Int):=by omega
      go_enter Tryz.func16,Tryz.ntmps16
      go_wp2_with fail
      refine (chanOk_any c a _ p q _ (((H1.out).below (by exact zB)).more (by simp)) (((H2.out).below (by exact zB)).more (by simp)) m1 m2).mono ?_
      rintro _ w1 ⟨rfl,hb1⟩
      have hB1:Below w.heap.size w w1:=bT (by exact zB) hb1
      have hs1:=hb1.size
      simp at hs1
      have:=fun o=>hb1.cell (p:=⟨w.heap.size,o,none⟩) (by simp)
      have hcell1:=(hB1.cell (p:=⟨bb,bo+i,none⟩) hb).trans hcell
      go_wp2_with fail
      refine (isWaiter_any c _ _ q _).mono ?_
      rintro _ w2 ⟨rfl,hb2⟩
      have hB2:Below w.heap.size w w2:=bT (by exact zB) hb2
      have:=fun o=>hb2.cell (p:=⟨w.heap.size,o,none⟩) (by simp;omega)
      have hcell2:=(hB2.cell (p:=⟨bb,bo+i,none⟩) hb).trans hcell
      go_wp2
      go_ret
      exact ⟨ret_i64 (by rw [← HV.out,HE.out]),by exact zB⟩
    · have HV:=Lib.hid (wordOf_no (c:=c) (v:=v) (by simp [hh]))
      go_enter Tryz.func16,Tryz.ntmps16
      go_wp2_with fail
      refine (chanOk_any c a b p q _ (((H1.out).below (by exact zB)).more (by simp)) (((H2.out).below (by exact zB)).more (by simp)) m1 m2).mono ?_
      rintro _ w1 ⟨rfl,hb1⟩
      have hB1:Below w.heap.size w w1:=bT (by exact zB) hb1
      have hs1:=hb1.size
      simp at hs1
      have:=fun o=>hb1.cell (p:=⟨w.heap.size,o,none⟩) (by simp)
      go_wp2_with fail
      refine (isWaiter_any c _ b q _).mono ?_
      rintro _ w2 ⟨rfl,hb2⟩
      have hB2:Below w.heap.size w w2:=bT (by exact zB) hb2
      go_wp2
      go_ret
      exact ⟨ret_i64 HV.out,by exact zB⟩
  · have HV:=Lib.hid (wordOf_no (c:=c) (v:=v) (by simp [hc]))
    go_enter Tryz.func16,Tryz.ntmps16
    go_wp2_with fail
    refine (chanOk_any c a b p q _ (((H1.out).below (by exact zB)).more (by simp)) (((H2.out).below (by exact zB)).more (by simp)) m1 m2).mono ?_
    rintro _ w1 ⟨rfl,hb1⟩
    have hB1:Below w.heap.size w w1:=bT (by exact zB) hb1
    go_wp2
    go_ret
    exact ⟨ret_i64 HV.out,by exact zB⟩
theorem eqlNil (t e:TypeId) (a:Option Addr) (l c:Nat) (h:Tryz.prog.underlying t=some (.slice e)) (w:World):(binOp .eql t (.slice a l c) (.slice none 0 0)).run Tryz.prog w=.ok (.bool a.isNone) w:=by
  simp only [binOp]
  simp [run_equal_slice_nil w t e a l c h]
set_option maxHeartbeats 400000 in
theorem cloneI_any (l:List Int) (b:Option Addr) (q:Nat) (w:World) (h:Seg w w.heap.size b l.length 1 (intF l)) (hz:b=none→q=0) (hm:l.length≤1099511627776) :
    Calls Tryz.prog 88 #[.slice b l.length q] w fun r w'=>(∃ v,r=.returned v∧OInts w' w.heap.size v l)∧Below w.heap.size w w':=by
  obtain ⟨i0,hi0,hz0,hz1,hz2⟩:=info_parts infoInt
  have hE:=eqlNil _ _ b l.length q Tryz.underlying25
  rcases b with _|⟨bb,bo,sp⟩
  · obtain rfl:=hz rfl
    have hn:l.length=0:=by rcases h with h|⟨_,_,h,_⟩;exact h;cases h
    obtain rfl:l=[]:=List.eq_nil_of_length_eq_zero hn
    simp at hE
    go_enter Tryz.func88,Tryz.ntmps88
    go_wp2
    go_ret
    exact ⟨⟨_,rfl,World.ownsRow_nil _ _ _ _⟩,by exact zB⟩
  · have HN:Hid (∀ j u,(ints l)[j]?=some u→w.cell? ((⟨bb,bo,sp⟩:Addr).add j)=some u):=by
      rcases h with h0|⟨b',o',e,h1,h2⟩
      · obtain rfl:l=[]:=List.eq_nil_of_length_eq_zero h0
        intro j u hu;simp [ints] at hu
      · simp at e
        obtain ⟨rfl,rfl,rfl⟩:=e
        exact Seg.newsI (.inr ⟨bb,bo,rfl,h1,h2⟩)
    clear h hz
    simp at hE
    go_enter Tryz.func88,Tryz.ntmps88
    go_wp2_with (at_builtin;refine wpList_append_own _ rfl _ _ 25 rfl w.heap.size 2 i0 _ 1 8 Tryz.underlying25 hi0 hz0 hz1 hz2 rfl (by decide) _ 0 [] rfl (own_made _ _ _ _ (Nat.le_refl _)) ⟨bb,bo,sp⟩ l.length q (ints l) rfl (by simp [ints]) ?c0 (ints_one l) ?c3 ?c4 ?c5 ?_)
    case c0=>exact fun j u hu=>cell_alloc_of (HN.out j u hu)
    case c3=>unfold maxLen;omega
    case c4=>omega
    case c5=>simp
    intro v w1 hown hg _
    go_wp2
    go_ret
    exact ⟨⟨_,rfl,by simpa using hown⟩,bOwn (by exact zB) hg (by simp) (by simp [Value.ownBlock])⟩
set_option maxHeartbeats 400000 in
theorem cloneC_any (l:List C3) (b:Option Addr) (q:Nat) (w:World) (h:Seg w w.heap.size b l.length 3 (cellF l)) (hz:b=none→q=0) (hm:l.length≤1099511627776) :
    Calls Tryz.prog 87 #[.slice b l.length q] w fun r w'=>(∃ v,r=.returned v∧OCells w' w.heap.size v l)∧Below w.heap.size w w':=by
  obtain ⟨i0,hi0,hz0,hz1,hz2⟩:=info_parts infoCell'
  have hE:=eqlNil _ _ b l.length q Tryz.underlying24
  rcases b with _|⟨bb,bo,sp⟩
  · obtain rfl:=hz rfl
    have hn:l.length=0:=by rcases h with h|⟨_,_,h,_⟩;exact h;cases h
    obtain rfl:l=[]:=List.eq_nil_of_length_eq_zero hn
    simp at hE
    go_enter Tryz.func87,Tryz.ntmps87
    go_wp2
    go_ret
    exact ⟨⟨_,rfl,World.ownsRow_nil _ _ _ _⟩,by exact zB⟩
  · have HN:Hid (∀ j u,(flatC l)[j]?=some u→w.cell? ((⟨bb,bo,sp⟩:Addr).add j)=some u):=by
      rcases h with h0|⟨b',o',e,h1,h2⟩
      · obtain rfl:l=[]:=List.eq_nil_of_length_eq_zero h0
        intro j u hu;simp [flatC] at hu
      · simp at e
        obtain ⟨rfl,rfl,rfl⟩:=e
        exact Seg.newsC (.inr ⟨bb,bo,rfl,h1,h2⟩)
    clear h hz
    simp at hE
    go_enter Tryz.func87,Tryz.ntmps87
    go_wp2_with (at_builtin;refine wpList_append_own _ rfl _ _ 24 rfl w.heap.size 52 i0 _ 3 24 Tryz.underlying24 hi0 hz0 hz1 hz2 rfl (by decide) _ 0 [] rfl (own_made _ _ _ _ (Nat.le_refl _)) ⟨bb,bo,sp⟩ l.length q (flatC l) rfl (flatC_len l) ?c0 (flatC_one l) ?c3 ?c4 ?c5 ?_)
    case c0=>exact fun j u hu=>cell_alloc_of (HN.out j u hu)
    case c3=>unfold maxLen;omega
    case c4=>omega
    case c5=>simp
    intro v w1 hown hg _
    go_wp2
    go_ret
    exact ⟨⟨_,rfl,by simpa using hown⟩,bOwn (by exact zB) hg (by simp) (by simp [Value.ownBlock])⟩
end Go.Proofs.YtkiingmgpobgnaaGreat
set_option linter.unusedSimpArgs false
set_option linter.unusedVariables false
namespace Go.Proofs.YtkiingmgpobgnaaGreat
open Go.RowKit
theorem mem_atFrom (st:Int):∀ (cs:List C3) (k:Nat) (x:Int),x ∈ atFrom st k cs→∃ j:Nat,x=(k:Int)+j∧j<cs.length∧(cs.getD j ⟨0,0,0⟩).s=st
  | [],k,x,h=>by simp [atFrom] at h
  | c :: cs,k,x,h=>by
    unfold atFrom at h
    by_cases hc:(c.s == st)=true
    · rw [if_pos hc] at h
      rcases List.mem_cons.1 h with h|h
      · exact ⟨0,by simpa using h,by simp,by simpa using hc⟩
      · obtain ⟨j,e,hl,hs⟩:=mem_atFrom st cs (k+1) x h
        exact ⟨j+1,by rw [e];push_cast;omega,by simpa using hl,by simpa using hs⟩
    · rw [if_neg hc] at h
      obtain ⟨j,e,hl,hs⟩:=mem_atFrom st cs (k+1) x h
      exact ⟨j+1,by rw [e];push_cast;omega,by simpa using hl,by simpa using hs⟩
theorem done_ok2 {c:Ch} {h:Ha} (e:(done c h).2.2=true):done c h=(c,h,true):=by
  unfold done at *
  split at e
  · rw [if_pos (by assumption)]
  · cases e
theorem done_nil {c:Ch} {h:Ha} (e:(done c h).2.2=false):done c h=nothing:=by
  unfold done at *
  split at e
  · cases e
  · rw [if_neg (by assumption)]
theorem gone_out (c:Ch) (h:Ha) (hc:chanOk c=true) (hh:handOk h=true) (st:Int) (hs:st=3∨st=4):h.cell ∉ waitingIn (stateC c h.cell (goneS h)) st:=by
  intro hm
  unfold waitingIn at hm
  split at hm
  · obtain ⟨j,e,hl,hj⟩:=mem_atFrom st _ _ _ hm
    have hk:=hand_cell hh
    have hl40:=(chan_40 hc).1
    have ej:h.cell.toNat=j:=by omega
    simp only [stateC,setAt] at hj hl
    rw [ej] at hj
    have hlen:j<c.cells.length:=by simpa using hl
    simp [List.getD,List.getElem?_set,hlen] at hj
    unfold goneS at hj
    split at hj <;> omega
  · simp at hm
theorem park_gone (c:Ch) (h:Ha) (hk:(parkStep c h).2.2=true) (hr:(parkStep c h).2.1.reply=3) (hp:(parkStep c h).2.1.pos=0) (st:Int) (hs:st=3∨st=4):h.cell ∉ waitingIn (parkStep c h).1 st:=by
  unfold parkStep at *
  by_cases h0:(stepOk c h 23 25 0 && (hasW c h.mine && !(h.pos == 24 && h.code == 1)))=true
  · rw [if_pos h0] at hk hr hp ⊢
    have hok:stepOk c h 23 25 0=true:=by simp at h0;exact h0.1
    obtain ⟨hc,hh,_,_⟩:=stepOk_yes hok
    by_cases p23:(h.pos == 23)=true
    · rw [if_pos p23] at hk hr hp ⊢
      unfold park9 at *
      split at hk
      · cases hk
      · rw [if_neg (by assumption)] at hr hp ⊢
        split at hk
        · rw [if_pos (by assumption),done_ok2 hk] at hp
          simp at hp
        · rw [if_neg (by assumption)] at hr hp ⊢
          split at hk
          · rw [if_pos (by assumption),done_ok2 hk] at hr
            simp [resting] at hr
          · rw [if_neg (by assumption),done_ok2 hk] at hp
            simp at hp
    · rw [if_neg p23] at hk hr hp ⊢
      by_cases p24:(h.pos == 24)=true
      · rw [if_pos p24] at hk hr hp ⊢
        rw [done_ok2 hk] at hr
        simp [resting] at hr
      · rw [if_neg p24] at hk hr hp ⊢
        rw [done_ok2 hk]
        exact gone_out c h hc hh st hs
  · rw [if_neg h0] at hk
    cases hk
theorem park_wait (c:Ch) (h:Ha) (hk:(parkStep c h).2.2=false):(parkStep c h).1.cells.length=0∨(chanOk c=true∧wordOf c h.mine=0∧(parkStep c h).1=c∧(parkStep c h).2.1=h):=by
  unfold parkStep at *
  by_cases h0:(stepOk c h 23 25 0 && (hasW c h.mine && !(h.pos == 24 && h.code == 1)))=true
  · rw [if_pos h0] at hk ⊢
    have hok:stepOk c h 23 25 0=true∧hasW c h.mine=true:=by simp at h0;exact ⟨h0.1,h0.2.1⟩
    obtain ⟨hc,hh,_,_⟩:=stepOk_yes hok.1
    by_cases p23:(h.pos == 23)=true
    · rw [if_pos p23] at hk ⊢
      unfold park9 at *
      split at hk
      · rename_i hw
        rw [if_pos hw]
        refine .inr ⟨hc,?_,rfl,rfl⟩
        unfold wordOf
        rw [hc,hok.2]
        simpa using hw
      · rw [if_neg (by assumption)]
        split at hk
        · rw [if_pos (by assumption),done_nil hk];exact .inl rfl
        · rw [if_neg (by assumption)]
          split at hk
          · rw [if_pos (by assumption),done_nil hk];exact .inl rfl
          · rw [if_neg (by assumption),done_nil hk];exact .inl rfl
    · rw [if_neg p23] at hk ⊢
      by_cases p24:(h.pos == 24)=true
      · rw [if_pos p24] at hk ⊢
        rw [done_nil hk];exact .inl rfl
      · rw [if_neg p24] at hk ⊢
        rw [done_nil hk];exact .inl rfl
  · rw [if_neg h0]
    exact .inl rfl
end Go.Proofs.YtkiingmgpobgnaaGreat
set_option linter.unusedSimpArgs false
set_option linter.unusedVariables false
namespace Go.Proofs.YtkiingmgpobgnaaGreat
open Go.RowKit
def upd {α:Type} (f:Nat→α) (k:Nat) (v:α):Nat→α:=fun j=>cond (Nat.beq j k) v (f j)
theorem upd_at {α:Type} (f:Nat→α) (k j:Nat) (v:α):upd f k v j=if j=k then v else f j:=by
  unfold upd
  by_cases h:j=k
  · subst h;simp
  · have:Nat.beq j k=false:=by cases hb:Nat.beq j k with
      | false=>rfl
      | true=>exact absurd (Nat.eq_of_beq_eq_true hb) h
    simp [this,h]
def fillA (t:Array Value):List Nat→(Nat→Value)→Array Value
  | [],_=>t
  | d :: ds,s=>(fillA t ds s).setIfInBounds d (s d)
def fill (a:Act) (ds:List Nat) (s:Nat→Value):Act:=⟨fillA a.tmps ds s,a.defers⟩
theorem fillA_size (t:Array Value) (ds:List Nat) (s:Nat→Value):(fillA t ds s).size=t.size:=by
  induction ds with
  | nil=>rfl
  | cons d ds ih=>simp [fillA,ih]
theorem fillA_get (t:Array Value) (ds:List Nat) (s:Nat→Value) (k:Nat):(fillA t ds s)[k]?=if k ∈ ds then (t[k]?).map (fun _=>s k) else t[k]?:=by
  induction ds with
  | nil=>simp [fillA]
  | cons d ds ih =>
    simp only [fillA,Array.getElem?_setIfInBounds,fillA_size]
    by_cases h:d=k
    · subst h
      by_cases hl:d<t.size
      · simp [hl]
      · simp [hl]
    · have h2:¬ k=d:=fun e=>h e.symm
      simp only [h,if_false,List.mem_cons,h2,false_or]
      exact ih
theorem fill_self (a:Act) (ds:List Nat):fill a ds (fun k=>a.tmps.getD k undef)=a:=by
  unfold fill
  have:fillA a.tmps ds (fun k=>a.tmps.getD k undef)=a.tmps:=by
    apply Array.ext_getElem?
    intro k
    rw [fillA_get]
    by_cases hl:k<a.tmps.size
    · simp [hl]
    · simp [hl]
  rw [this]
/-- How many have not come up yet. -/
def left (l:Nat→Bool):Nat→Nat
  | 0=>0
  | n+1=>left l n+cond (l n) 0 1
theorem left_far (l:Nat→Bool) (i n:Nat) (h:n≤i):left (upd l i true) n=left l n:=by
  induction n with
  | zero=>rfl
  | succ n ih =>
    have:upd l i true n=l n:=by rw [upd_at,if_neg (by omega)]
    simp [left,ih (by omega),this]
theorem left_upd (l:Nat→Bool) (i n:Nat) (h:i<n) (hi:l i=false):left (upd l i true) n+1=left l n:=by
  induction n with
  | zero=>omega
  | succ n ih =>
    by_cases e:i=n
    · subst e
      have:upd l i true i=true:=by rw [upd_at,if_pos rfl]
      simp [left,left_far l i i (Nat.le_refl _),this,hi]
    · have:upd l i true n=l n:=by rw [upd_at,if_neg (by omega)]
      have:=ih (by omega)
      simp only [left, *]
      omega
theorem left_zero (l:Nat→Bool) (n:Nat) (h:left l n=0):∀ i,i<n→l i=true:=by
  induction n with
  | zero=>intro i hi;omega
  | succ n ih =>
    intro i hi
    simp only [left] at h
    by_cases e:i=n
    · subst e
      cases hl:l i with
      | true=>rfl
      | false=>simp [hl] at h
    · exact ih (by omega) i (by omega)
/-- The lists of what must have come up before each, held against the region: each waits for earlier ones alone, and each that is listed is waited for, or one that is waited for waits for it. -/
def waitsOk (T:List (List Nat)):Nat→List Oper→Bool
  | _,[]=>true
  | i,o :: os=>(o.after.toList.all fun e=>!Region.binds .any e || Nat.blt e.on i) && ((T.getD i []).all fun t=>o.after.toList.any fun e=>Region.binds .any e && (Nat.beq e.on t || (T.getD e.on []).any fun u=>Nat.beq u t)) && waitsOk T (i+1) os
theorem waitsOk_at {T:List (List Nat)} {j:Nat} {o:Oper}:∀ (os:List Oper) (i:Nat),waitsOk T i os=true→os[j]?=some o →
    (∀ e ∈ o.after,Region.binds .any e=true→e.on<i+j)∧∀ t ∈ T.getD (i+j) [],∃ e ∈ o.after,Region.binds .any e=true∧(e.on=t∨t ∈ T.getD e.on []):=by
  induction j with
  | zero =>
    intro os i h ho
    cases os with
    | nil=>simp at ho
    | cons p os =>
      simp at ho
      subst ho
      simp only [waitsOk,Bool.and_eq_true] at h
      obtain ⟨⟨h1,h2⟩,_⟩:=h
      refine ⟨fun e he hb=>?_,fun t ht=>?_⟩
      · have:=List.all_eq_true.1 h1 e (by simpa using he)
        simp [hb] at this
        simpa [Nat.blt_eq] using this
      · have:=List.all_eq_true.1 h2 t (by simpa using ht)
        obtain ⟨e,he,h3⟩:=List.any_eq_true.1 this
        simp only [Bool.and_eq_true,Bool.or_eq_true] at h3
        refine ⟨e,by simpa using he,h3.1,?_⟩
        rcases h3.2 with h4|h4
        · exact .inl (Nat.eq_of_beq_eq_true h4)
        · obtain ⟨u,hu,h5⟩:=List.any_eq_true.1 h4
          exact .inr ((Nat.eq_of_beq_eq_true h5) ▸ hu)
  | succ j ih =>
    intro os i h ho
    cases os with
    | nil=>simp at ho
    | cons p os =>
      simp at ho
      simp only [waitsOk,Bool.and_eq_true] at h
      have:=ih os (i+1) h.2 ho
      rw [show i+(j+1)=i+1+j by omega]
      exact this
section
variable {P:Program} {ops:Array Oper} {Q:Exit→Act→World→Prop}
/-- One operation, whatever came up before it. -/
def StepAt (P:Program) (ops:Array Oper) (Q:Exit→Act→World→Prop) (T:List (List Nat)) (F:(Nat→Value)→Act) (Φ:(Nat→Bool)→(Nat→Value)→World→Prop) (i:Nat) (o:Oper):Prop :=
  ∀ (l:Nat→Bool) (s:Nat→Value) (w:World),l i=false→(∀ t,(T.getD i []).any (Nat.beq t)=true→l t=true)→(∀ j,(T.getD j []).any (Nat.beq i)=true→l j=false)→Φ l s w →
    ∀ K':Act→World→Prop,Shut (∀ s' a' w',a'=F s'→Φ (upd l i true) s' w'→K' a' w')→if Region.wanted o (yielded ops (F s).tmps)=true then Oper.wp P o (F s) w K' Q else K' ((F s).put o.dst undef) w
def Steps (P:Program) (ops:Array Oper) (Q:Exit→Act→World→Prop) (T:List (List Nat)) (F:(Nat→Value)→Act) (Φ:(Nat→Bool)→(Nat→Value)→World→Prop):Nat→List Oper→Prop
  | _,[]=>True
  | i,o :: os=>StepAt P ops Q T F Φ i o∧Steps P ops Q T F Φ (i+1) os
theorem Steps.at {T:List (List Nat)} {F:(Nat→Value)→Act} {Φ:(Nat→Bool)→(Nat→Value)→World→Prop} {j:Nat} {o:Oper}:∀ (os:List Oper) (i:Nat),Steps P ops Q T F Φ i os→os[j]?=some o→StepAt P ops Q T F Φ (i+j) o:=by
  induction j with
  | zero =>
    intro os i h ho
    cases os with
    | nil=>simp at ho
    | cons p os=>simp at ho;subst ho;exact h.1
  | succ j ih =>
    intro os i h ho
    cases os with
    | nil=>simp at ho
    | cons p os =>
      simp at ho
      have:=ih os (i+1) h.2 ho
      rw [show i+(j+1)=i+1+j by omega]
      exact this
theorem any_beq {L:List Nat} {t:Nat}:L.any (Nat.beq t)=true↔t ∈ L:=by
  rw [List.any_eq_true]
  constructor
  · rintro ⟨x,hx,he⟩
    exact (Nat.eq_of_beq_eq_true he) ▸ hx
  · intro h
    exact ⟨t,h,by simp⟩
theorem wpAny_inv {T:List (List Nat)} {F:(Nat→Value)→Act} {Φ:(Nat→Bool)→(Nat→Value)→World→Prop} (hT:waitsOk T 0 ops.toList=true) (hTl:Nat.ble T.length ops.size=true) (steps:Steps P ops Q T F Φ 0 ops.toList)
    (fin:∀ (l:Nat→Bool) (s:Nat→Value) (w:World),(∀ i,Nat.blt i ops.size=true→l i=true)→Φ l s w→Q .normal (F s) w) :
    ∀ (fuel:Nat) (listed:Array Bool) (l:Nat→Bool) (s:Nat→Value) (w:World),listed.size=ops.size→(∀ i,i<ops.size→listed[i]?=some (l i))→left l ops.size≤fuel →
      (∀ i e o,ops[i]?=some o→e ∈ o.after→Region.binds .any e=true→l i=true→l e.on=true)→Φ l s w→wpAny P .any ops Q fuel listed (F s) w:=by
  have W:∀ i o,ops[i]?=some o→(∀ e ∈ o.after,Region.binds .any e=true→e.on<i)∧∀ t ∈ T.getD i [],∃ e ∈ o.after,Region.binds .any e=true∧(e.on=t∨t ∈ T.getD e.on []):=by
    intro i o ho
    have:=waitsOk_at (j:=i) ops.toList 0 hT (by simpa using ho)
    simpa using this
  have up:∀ (l:Nat→Bool),(∀ i e o,ops[i]?=some o→e ∈ o.after→Region.binds .any e=true→l i=true→l e.on=true)→∀ n i,i<n→i<ops.size→l i=true→∀ t ∈ T.getD i [],l t=true:=by
    intro l hc n
    induction n with
    | zero=>intro i hi;omega
    | succ n ih =>
      intro i hi hs hl t ht
      have ho:ops[i]?=some ops[i]:=by simp [hs]
      obtain ⟨e,he,hb,h3⟩:=(W i _ ho).2 t ht
      have h1:=hc i e _ ho he hb hl
      have h2:=(W i _ ho).1 e he hb
      rcases h3 with h3|h3
      · exact h3 ▸ h1
      · exact ih e.on (by omega) (by omega) h1 t h3
  have all:∀ (listed:Array Bool) (l:Nat→Bool),listed.size=ops.size→(∀ i,i<ops.size→listed[i]?=some (l i))→Region.ready .any ops listed=[]→∀ n i,i<n→i<ops.size→l i=true:=by
    intro listed l hsz hl hr n
    induction n with
    | zero=>intro i hi;omega
    | succ n ih =>
      intro i hi hs
      cases hli:l i with
      | true=>rfl
      | false =>
        have ho:ops[i]?=some ops[i]:=by simp [hs]
        have hm:i ∈ Region.ready .any ops listed:=mem_ready.2 ⟨by simp [Array.getD_eq_getD_getElem?,hl i hs,hli],_,ho,fun e he hb=>by
          have h2:=(W i _ ho).1 e he hb
          have h3:=ih e.on (by omega) (by omega)
          simp [Array.getD_eq_getD_getElem?,hl e.on (by omega),h3]⟩
        rw [hr] at hm
        cases hm
  intro fuel
  induction fuel with
  | zero =>
    intro listed l s w hsz hl hf hc hΦ
    have h0:=left_zero l ops.size (by omega)
    refine ⟨?_,fin l s w (fun i hi=>h0 i (by simpa [Nat.blt_eq] using hi)) hΦ⟩
    apply List.eq_nil_iff_forall_not_mem.2
    intro i hi
    obtain ⟨h1,o,ho,_⟩:=mem_ready.1 hi
    have hs:i<ops.size:=(Array.getElem?_eq_some_iff.1 ho).1
    rw [Array.getD_eq_getD_getElem?,hl i hs,h0 i hs] at h1
    cases h1
  | succ fuel ih =>
    intro listed l s w hsz hl hf hc hΦ
    refine ⟨fun hr=>fin l s w (fun i hi=>all listed l hsz hl hr (i+1) i (by omega) (by simpa [Nat.blt_eq] using hi)) hΦ,fun i hi=>?_⟩
    obtain ⟨h1,o,ho,hall⟩:=mem_ready.1 hi
    have hs:i<ops.size:=(Array.getElem?_eq_some_iff.1 ho).1
    have hli:l i=false:=by
      rw [Array.getD_eq_getD_getElem?,hl i hs] at h1
      simpa using h1
    have hd:∀ e ∈ o.after,Region.binds .any e=true→l e.on=true:=fun e he hb=>by
      have h2:=hall e he hb
      have h3:=(W i o ho).1 e he hb
      rw [Array.getD_eq_getD_getElem?,hl e.on (by omega)] at h2
      simpa using h2
    have hst:=Steps.at (j:=i) ops.toList 0 steps (by simpa using ho)
    rw [Nat.zero_add] at hst
    refine wpOp_step ho fun K' hK=>hst l s w hli (fun t ht=>?_) (fun j hj=>?_) hΦ K' (fun s' a' w' ea hΦ'=>hK _ _ ?_)
    · obtain ⟨e,he,hb,h3⟩:=(W i o ho).2 t (any_beq.1 ht)
      rcases h3 with h3|h3
      · exact h3 ▸ hd e he hb
      · exact up l hc (e.on+1) e.on (by omega) (by have:=(W i o ho).1 e he hb;omega) (hd e he hb) t h3
    · have hj2:=any_beq.1 hj
      cases hlj:l j with
      | false=>rfl
      | true =>
        by_cases hjs:j<ops.size
        · have:=up l hc (j+1) j (by omega) hjs hlj i hj2
          rw [hli] at this
          cases this
        · have h5:=Nat.le_of_ble_eq_true hTl
          simp [List.getD_eq_getElem?_getD,List.getElem?_eq_none (show T.length≤j by omega)] at hj2
    · subst ea
      refine ih _ (upd l i true) s' w' (by simpa using hsz) (fun k hk=>?_) (by have:=left_upd l i ops.size hs hli;omega) (fun k e o2 ho2 he hb hk=>?_) hΦ'
      · rw [Array.getElem?_setIfInBounds,upd_at,hl k hk]
        by_cases e:i=k
        · subst e;simp [hsz,hs]
        · have e2:¬ k=i:=fun x=>e x.symm
          simp [e,e2]
      · rw [upd_at] at hk ⊢
        by_cases e1:e.on=i
        · simp [e1]
        · rw [if_neg e1]
          by_cases e2:k=i
          · subst e2
            rw [ho] at ho2
            obtain rfl:=Option.some.inj ho2
            exact hd e he hb
          · rw [if_neg e2] at hk
            exact hc k e o2 ho2 he hb hk
/-- A drawn region: the frame F by what lies in the slots, the invariant Φ by what has come up. -/
theorem wp_region_inv {id:Nat} {a:Act} {w:World} (T:List (List Nat)) (ds:List Nat) (Φ:(Nat→Bool)→(Nat→Value)→World→Prop) {F:(Nat→Value)→Act} (hm:P.follows .mixedOrders=true) (hT:waitsOk T 0 ops.toList=true) (hTl:Nat.ble T.length ops.size=true)
    (hF:∀ s,fill a ds s=F s) (h0:∀ s,Φ (fun _=>false) s w.drew) (steps:Steps P ops Q T F Φ 0 ops.toList)
    (fin:∀ (l:Nat→Bool) (s:Nat→Value) (w:World),(∀ i,Nat.blt i ops.size=true→l i=true)→Φ l s w→Q .normal (F s) w):(Code.region id ops true).wp P Q a w:=by
  refine wp_region_any hm ?_
  have:=wpAny_inv hT hTl steps fin ops.size (Array.replicate ops.size false) (fun _=>false) (fun k=>a.tmps.getD k undef) w.drew (by simp) (fun i hi=>by simp [hi]) (by
    generalize ops.size=n
    induction n with
    | zero=>simp [left]
    | succ n ih=>simp [left];exact ih) (fun i e o _ _ _ h=>by cases h) (h0 _)
  rw [← hF,fill_self] at this
  exact this
end
end Go.Proofs.YtkiingmgpobgnaaGreat
set_option linter.unusedSimpArgs false
set_option linter.unusedVariables false
namespace Go.Proofs.YtkiingmgpobgnaaGreat
open Go.RowKit
variable {w w':World} {v:Value} {lo b:Nat} {x y ys:Array Value} {T T':TypeId}
theorem belowAlloc (w:World) (o:Obj):Below w.heap.size w (w.alloc o):=(Below.refl _ _).alloc (Nat.le_refl _) o
theorem hpS (h:hp w b=some (.cells x T)) (hb:Below w.heap.size w w'):hp w' b=some (.cells x T):=(hpB hb (bO h).2.2).trans h
def IsBox (w:World) (v:Value) (lo:Nat) (x:Array Value) (T:TypeId):Prop:=∃ b,v=.pointer (some ⟨b,0,none⟩)∧lo≤b∧hp w b=some (.cells x T)
theorem IsBox.below (h:IsBox w v lo x T) (hb:Below w.heap.size w w'):IsBox w' v lo x T:=by
  obtain ⟨b,e,hl,hz⟩:=h
  exact ⟨b,e,hl,hpS hz hb⟩
theorem IsBox.new (h:lo≤w.heap.size):IsBox (w.alloc (.cells x T)) (.pointer (some ⟨w.heap.size,0,none⟩)) lo x T :=
  ⟨_,rfl,h,heap_alloc_new w _⟩
theorem hp_far (hz:hp w b=some (.cells y T')) {b':Nat} (h:hp w b'=some (.cells x T)) (hne:T≠T'):hp (setBox w b ys) b'=some (.cells x T):=by
  have:b'≠b:=by
    rintro rfl
    rw [hz] at h
    simp at h
    exact hne h.2.symm
  exact (bx_heap_ne this).trans h
theorem hp_set (hz:hp w b=some (.cells y T)):hp (setBox w b ys) b=some (.cells ys T):=by rw [bx_heap_at,hz];rfl
theorem IsBox.far (h:IsBox w v lo x T) (hz:hp w b=some (.cells y T')) (hne:T≠T'):IsBox (setBox w b ys) v lo x T:=by
  obtain ⟨b',e,hl,h⟩:=h
  exact ⟨b',e,hl,hp_far hz h hne⟩
theorem own_far {e:TypeId} {k m:Nat} {u:Value} {xs:List Value} (h:w.ownsRow lo e k u m xs) (hz:hp w b=some (.cells y T')) (hne:e≠T'):(setBox w b ys).ownsRow lo e k u m xs:=by
  refine own_box h fun e2=>?_
  rcases h.2 with ⟨rfl,_⟩|⟨g,cap,cur,rfl,_,hg,_⟩
  · cases e2
  · simp [Value.ownBlock] at e2
    subst e2
    unfold hp at hz
    rw [hz] at hg
    simp at hg
    exact hne hg.2.symm
theorem own_offs {e:TypeId} {k m:Nat} {u:Value} {xs:List Value} (h:w.ownsRow lo e k u m xs) (hz:hp w b=some (.cells y T')) (hne:e≠T'):∀ i,u.ownBlock=some i→i≠b:=by
  rintro i e2 rfl
  rcases h.2 with ⟨rfl,_⟩|⟨g,cap,cur,rfl,_,hg,_⟩
  · cases e2
  · simp [Value.ownBlock] at e2
    subst e2
    unfold hp at hz
    rw [hz] at hg
    simp at hg
    exact hne hg.2.symm
end Go.Proofs.YtkiingmgpobgnaaGreat
set_option linter.unusedSimpArgs false
set_option linter.unusedVariables false
namespace Go.Proofs.YtkiingmgpobgnaaGreat
open Go.RowKit
def eqHa (a b:Ha):Bool:=a.pos == b.pos && ((a.code == b.code && a.elem == b.elem) && (a.cell == b.cell && (a.seen == b.seen && (a.wait == b.wait && (a.fin == b.fin && (a.come == b.come && (a.grow == b.grow && (a.mine == b.mine && (a.nxt == b.nxt && (a.beg == b.beg && (a.reply == b.reply && a.out == b.out)))))))))))
theorem eqHa_iff (a b:Ha):eqHa a b=true↔a=b:=by
  obtain ⟨a1,a2,a3,a4,a5,a6,a7,a8,a9,a10,a11,a12,a13,a14⟩:=a
  obtain ⟨b1,b2,b3,b4,b5,b6,b7,b8,b9,b10,b11,b12,b13,b14⟩:=b
  simp [eqHa,and_assoc]
theorem eqHa_self (a:Ha):eqHa a a=true:=(eqHa_iff a a).2 rfl
theorem eqCallV (a b c d:Int) (n:Nat) (w:World):(Op.equalIn (n+1+1) 29 (.agg #[.int .i64 a,.int .i64 b]) (.agg #[.int .i64 c,.int .i64 d])).run Tryz.prog w=.ok (a == c && b == d) w:=by
  have u3:=Tryz.underlying2
  have a3:=Tryz.isAgg2
  have z3:=Tryz.sizeOf2
  have hS:Tryz.prog.underlying 29=some (.struct (Tryz.prog.fieldsOf 29)):=by kernel_rfl
  rw [run_equalIn_agg w (n+1) 29 _ _ hS (by kernel_rfl)]
  simp only [Program.fieldsOf,Tryz.underlying29]
  go_simp
  by_cases h1:a=c <;> by_cases h2:b=d <;> simp [h1,h2]
theorem eqHandV (x y:Ha) (w:World):(Op.equalIn 10000 31 (.agg (hvals x)) (.agg (hvals y))).run Tryz.prog w=.ok (eqHa x y) w:=by
  have u3:=Tryz.underlying2
  have a3:=Tryz.isAgg2
  have z3:=Tryz.sizeOf2
  have a4:=Tryz.isAgg29
  have z4:=Tryz.sizeOf29
  have hS:Tryz.prog.underlying 31=some (.struct (Tryz.prog.fieldsOf 31)):=by kernel_rfl
  rw [show (10000:Nat)=9998+1+1 from rfl,run_equalIn_agg w (9998+1) 31 _ _ hS (by kernel_rfl)]
  simp only [Program.fieldsOf,Tryz.underlying31]
  simp [hvals,Op.eqFields,go_sem,eqCallV,eqHa, *]
  by_cases h0:x.pos=y.pos <;> simp [h0]
  by_cases h1:x.code=y.code <;> simp [h1]
  by_cases h2:x.elem=y.elem <;> simp [h2]
  by_cases h3:x.cell=y.cell <;> simp [h3]
  by_cases h4:x.seen=y.seen <;> simp [h4]
  by_cases h5:x.wait=y.wait <;> simp [h5]
  by_cases h6:x.fin=y.fin <;> simp [h6]
  by_cases h7:x.come=y.come <;> simp [h7]
  by_cases h8:x.grow=y.grow <;> simp [h8]
  by_cases h9:x.mine=y.mine <;> simp [h9]
  by_cases h10:x.nxt=y.nxt <;> simp [h10]
  by_cases h11:x.beg=y.beg <;> simp [h11]
  by_cases h12:x.reply=y.reply <;> simp [h12]
  by_cases h13:x.out=y.out <;> simp [h13]
end Go.Proofs.YtkiingmgpobgnaaGreat
set_option linter.unusedSimpArgs false
set_option linter.unusedVariables false
namespace Go.Proofs.YtkiingmgpobgnaaGreat
open Go.RowKit
def mostE (k:Int):Int:=if k == 1 then 999 else (if k == 2 then 0 else -1)
theorem callOk_most (k e:Int):inB e 0 (mostE k)=callOk k e:=by
  unfold mostE callOk
  by_cases h1:k=1
  · subst h1;simp
  · by_cases h2:k=2
    · subst h2
      simp [inB]
      rw [Bool.eq_iff_iff];simp;omega
    · have:(if k == 1 then (999:Int) else if k == 2 then 0 else -1)=-1:=by simp [h1,h2]
      rw [this,inB_no (by omega)]
      simp [h1,h2]
set_option maxHeartbeats 400000 in
theorem mostElem_any (k:Int) (w:World):Calls Tryz.prog 104 #[.int .i64 k] w fun r w'=>r=.returned (.int .i64 (mostE k))∧w=w':=by
  go_enter Tryz.func104,Tryz.ntmps104
  go_wp2
  all_goals go_ret
  all_goals exact ⟨ret_i64 (by simp_all [mostE]),rfl⟩
set_option maxHeartbeats 400000 in
theorem coded_any (k e:Int) (w:World):Calls Tryz.prog 70 #[.agg #[.int .i64 k,.int .i64 e]] w fun r w'=>r=.returned (.agg #[.int .i64 k,.int .i64 e])∧Below w.heap.size w w':=by
  go_enter Tryz.func70,Tryz.ntmps70
  go_wp2
  exact bodyPost_ret (v:=.agg #[.int .i64 k,.int .i64 e]) (by simp [results,Tryz.results70,go_sem, *]) rfl ⟨rfl,by exact zB⟩
set_option maxHeartbeats 400000 in
theorem isRight_any (k e:Int) (w:World):Calls Tryz.prog 71 #[.agg #[.int .i64 k,.int .i64 e]] w fun r w'=>r=.returned (.bool (callOk k e))∧Below w.heap.size w w':=by
  go_enter Tryz.func71,Tryz.ntmps71
  go_wp2_with fail
  go_region_with (first|(go_at_call 104;refine (mostElem_any _ _).mono ?_;rintro _ _ ⟨rfl,rfl⟩)|(go_at_call 35;refine (inRange_any _ _ _).mono ?_;rintro _ _ ⟨rfl,rfl⟩))
  all_goals go_wp2
  all_goals go_ret
  all_goals exact ⟨ret_bool (callOk_most k e),by exact zB⟩
set_option maxHeartbeats 400000 in
theorem callOk_any (k e:Int) (w:World):Calls Tryz.prog 40 #[.agg #[.int .i64 k,.int .i64 e]] w fun r w'=>r=.returned (.bool (callOk k e))∧Below w.heap.size w w':=by
  go_enter Tryz.func40,Tryz.ntmps40
  go_wp2_with fail;refine (coded_any _ _ _).mono ?_;rintro _ w1 ⟨rfl,hbw1⟩;have hBw1:Below w.heap.size w w1:=bT (by exact zB) hbw1;have hsw1:=hbw1.size;(try (simp at hsw1));have:=fun o=>hbw1.cell (p:=⟨w.heap.size,o,none⟩) (by ((try simp);(try omega)));have:=fun o=>hbw1.frozen (p:=⟨w.heap.size,o,none⟩) (by ((try simp);(try omega)));have:w.heap.size<w1.heap.size:=(by omega);have:w.heap.size≤w1.heap.size:=(by omega);have:w.heap.size≤w1.heap.size+1:=(by omega)
  go_wp2_with fail;refine (isRight_any _ _ _).mono ?_;rintro _ w2 ⟨rfl,hbw2⟩;have hBw2:Below w.heap.size w w2:=bT (by exact zB) hbw2;have hsw2:=hbw2.size;(try (simp at hsw2));have:=fun o=>hbw2.cell (p:=⟨w.heap.size,o,none⟩) (by ((try simp);(try omega)));have:=fun o=>hbw2.frozen (p:=⟨w.heap.size,o,none⟩) (by ((try simp);(try omega)));have:w.heap.size<w2.heap.size:=(by omega);have:w.heap.size≤w2.heap.size:=(by omega);have:w.heap.size≤w2.heap.size+1:=(by omega)
  go_wp2
  go_ret
  exact ⟨rfl,by exact zB⟩
end Go.Proofs.YtkiingmgpobgnaaGreat
