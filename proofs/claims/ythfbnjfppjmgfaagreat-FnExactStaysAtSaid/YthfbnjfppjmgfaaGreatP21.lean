/-
  The program's touch of growing, every case, and its step, on hands and channels that are kept whole; lists lie in memory.
  The program's word of one's own, what is heard, fetched and marked when one is parked, on hands and channels that are kept whole; the lists are the call's own.
  The program's touch of parking, every case, on hands and channels that are kept whole; the lists are the call's own.
  The program's step of parking: its face catches what gives up; lists lie in memory.
  Whether a step of the program waits: as the reference's; lists lie in memory and hold at most as much as memory can hold.
  The exact law of StaysAt returns true, whatever it is called with, and turns nothing that was there; the lists hold at most as much as memory can hold.
  How the arguments of the laws are opened: numbers, structs of numbers, and slices of these; no condition but that they can be read.
  How a channel is opened that is an argument of a law; no condition but that it can be read.
  How a hand is opened that is an argument of a law; no condition but that it can be read.
-/
import Derived.Test.YthfbnjfppjmgfaaGreatP20
import Derived.Test.YthfbnjfppjmgfaaGreatP18
import Derived.Laws.EntriesVeiled
import Derived.Test.YthfbnjfppjmgfaaGreatP16
import Derived.Test.YthfbnjfppjmgfaaGreatP15
import Derived.Deep.RegionHeld3
import Derived.WalkLawsBesides
import Derived.Test.YthfbnjfppjmgfaaGreatP12
import Derived.Deep.DeepCutAuto
import Derived.BigRegion
import Derived.Recover
import Derived.Test.YthfbnjfppjmgfaaGreatP13
import Derived.Test.YthfbnjfppjmgfaaGreatP19
import Derived.Test.YthfbnjfppjmgfaaGreatP01
import Derived.Test.YthfbnjfppjmgfaaGreatRows
import Derived.ProofKit
import Derived.OpenShut
import Derived.ShutString
import Derived.ChangeOld
import Derived.Deep.Slices
import Derived.Deep.Fields
set_option linter.unusedSimpArgs false
set_option linter.unusedVariables false
namespace Go.Proofs.YthfbnjfppjmgfaaGreat
open Go.RowKit
set_option linter.unusedSimpArgs false
attribute [local simp] bx_size
attribute [local go_sem ↓] zeroHand zeroChan toLHand toLChan toVHand toVChan storeHand storeChan storeHandC storeChanC
theorem fin7_done8 {c:Ch} {h:Ha}:fin7 (c,h,true)=done c h:=rfl
theorem fin7_nothing8:fin7 nothing=nothing:=by simp [fin7,nothing,chanOk,chanHead,Ch.zero]
theorem tellC_no8 {c:Ch} {w word:Int} (h:tellB c w word=false):tellC c w word=c:=by simp [tellC,h]
theorem hand_nxt {h:Ha} (hh:handOk h=true):0≤h.nxt∧h.nxt≤2:=by
  simp only [handOk,handC,Bool.and_eq_true,inB_iff] at hh
  omega
theorem hand_grow8 {h:Ha} (hh:handOk h=true):0≤h.grow∧h.grow≤39:=by
  simp only [handOk,handB,Bool.and_eq_true,inB_iff] at hh
  omega
theorem hand_pos {h:Ha} (hh:handOk h=true):0≤h.pos∧h.pos≤25:=by
  simp only [handOk,handA,Bool.and_eq_true,inB_iff] at hh
  omega
theorem chan_fin8 {c:Ch} (e:chanOk c=true):0≤c.fin∧c.fin≤40:=by
  simp only [chanOk,chanHead,Bool.and_eq_true,inB_iff] at e
  omega
theorem growTouch_any (c:Ch) (h:Ha) (hc:chanOk c=true) (hh:handOk h=true):∃ x:St,growStepP c h=fin7 x∧∀ (v1 v2:Value) (lo:Nat) (W:World),OCells W lo v1 c.cells→OInts W lo v2 c.words→lo≤W.heap.size→Calls Tryz.prog 120 #[.agg (cvals c v1 v2),.agg (hvals h)] W fun r w'=>StepO W w' lo v1 v2 x r:=by
  cases hk:(h.code != 2) with
  | true =>
    have hk2:¬ h.code=2:=by simpa using hk
    have hno:stepOk c h 16 22 2=false:=by simp [stepOk,hk2]
    exact ⟨nothing,by rw [fin7_nothing8];simp [growStepP,growStep,hno],fun v1 v2 lo W o1 o2 _=>growTouch_no c h v1 v2 lo W o1 o2 hk⟩
  | false =>
    have hk2:h.code=2:=by simpa using hk
    have hnx:=hand_nxt hh
    obtain ⟨hc0,hc9⟩:=hand_grow8 hh
    have hc1:h.grow<c.cells.length:=by have:=(chan_len hc).1;omega
    by_cases hr:16≤h.pos∧h.pos≤22
    · have hok:stepOk c h 16 22 2=true:=by
        have:inB h.pos 16 22=true:=by simp [inB];omega
        simp [stepOk,hc,hh,this,hk2]
      have hcall:callOk h.code h.elem=true:=by
        have:=hh
        simp only [handOk,handA,Bool.and_eq_true,inB_iff] at this
        have h0:¬ h.pos=0:=by omega
        simp [h0] at this
        exact this.1.2
      have hps:h.pos=16∨h.pos=17∨h.pos=18∨h.pos=19∨h.pos=20∨h.pos=21∨h.pos=22:=by omega
      rcases hps with hp|hp|hp|hp|hp|hp|hp
      · have hq:(h.pos == 16)=true:=by simpa using hp
        cases hg:(c.cap == 0) with
        | true =>
          refine ⟨(c,grown8 h,true),?_,fun v1 v2 lo W o1 o2 _=>growTouch_16a c h v1 v2 lo W o1 o2 hg hcall hnx hq hk⟩
          simp only [growStepP,growStep,hok,hp,begin8,hg]
          simp [fin7_done8]
        | false =>
          cases hf:(c.fin == 40) with
          | true =>
            refine ⟨(c,grown8 h,true),?_,fun v1 v2 lo W o1 o2 _=>growTouch_16b c h v1 v2 lo W o1 o2 hg hf hcall hnx hq hk⟩
            simp only [growStepP,growStep,hok,hp,begin8,hg,hf]
            simp [fin7_done8]
          | false =>
            refine ⟨({ c with fin:=c.fin+1 },{ h with grow:=c.fin,pos:=17 },true),?_,fun v1 v2 lo W o1 o2 _=>growTouch_16c c h v1 v2 lo W o1 o2 (chan_fin8 hc) hg hf hq hk⟩
            simp only [growStepP,growStep,hok,hp,begin8,hg,hf]
            simp [fin7_done8]
      · have hq:(h.pos == 17)=true:=by simpa using hp
        by_cases hg:c.sent≤h.grow
        · refine ⟨(c,grown8 h,true),?_,fun v1 v2 lo W o1 o2 _=>growTouch_17a c h v1 v2 lo W o1 o2 hg hcall hnx hq hk⟩
          simp [growStepP,growStep,hok,hp,hg,fin7_done8]
        · refine ⟨(c,{ h with pos:=18 },true),?_,fun v1 v2 lo W o1 o2 _=>growTouch_17b c h v1 v2 lo W o1 o2 hg hq hk⟩
          simp [growStepP,growStep,hok,hp,hg,fin7_done8]
      · have hq:(h.pos == 18)=true:=by simpa using hp
        have em:growStepP c h=meetStep c h:=by simp [growStepP,growStep,hok,hp]
        by_cases n5:(cellAt c h.grow).s=5
        · refine ⟨(c,h,false),?_,fun v1 v2 lo W o1 o2 _=>growTouch_18_5 c h v1 v2 lo W o1 o2 hc0 hc1 n5 hq hk⟩
          rw [em]
          simp [meetStep,n5,fin7,hc,hh]
        have ed:growStepP c h=done c (meet8 c h):=by rw [em];simp [meetStep,n5]
        by_cases n0:(cellAt c h.grow).s=0
        · refine ⟨(c,{ seenAs h (cellAt c h.grow) with pos:=19 },true),?_,fun v1 v2 lo W o1 o2 _=>growTouch_18_0 c h v1 v2 lo W o1 o2 hc0 hc1 n0 hq hk⟩
          rw [ed,fin7_done8]
          simp [meet8,n0]
        by_cases n3:(cellAt c h.grow).s=3
        · refine ⟨(c,{ seenAs h (cellAt c h.grow) with pos:=19 },true),?_,fun v1 v2 lo W o1 o2 _=>growTouch_18_3 c h v1 v2 lo W o1 o2 hc0 hc1 n3 hq hk⟩
          rw [ed,fin7_done8]
          simp [meet8,n3]
        by_cases n9:(cellAt c h.grow).s=9
        · refine ⟨(c,{ seenAs h (cellAt c h.grow) with pos:=16 },true),?_,fun v1 v2 lo W o1 o2 _=>growTouch_18_9 c h v1 v2 lo W o1 o2 hc0 hc1 n9 hq hk⟩
          rw [ed,fin7_done8]
          simp [meet8,n9]
        · refine ⟨(c,grown8 (seenAs h (cellAt c h.grow)),true),?_,fun v1 v2 lo W o1 o2 _=>growTouch_18_g c h v1 v2 lo W o1 o2 hc0 hc1 (by simpa using n5) (by simpa using n0) (by simpa using n3) (by simpa using n9) hcall hnx hq hk⟩
          rw [ed,fin7_done8]
          simp [meet8,n0,n3,n9]
      · have hq:(h.pos == 19)=true:=by simpa using hp
        have ep:growStepP c h=pull8P c h:=by simp [growStepP,hok,hp]
        cases hs:(h.seen != 0) with
        | true =>
          refine ⟨callG c h,?_,fun v1 v2 lo W o1 o2 _=>growTouch_19c c h v1 v2 lo W o1 o2 hc0 hc1 hs hq hk⟩
          have h0:¬ h.seen=0:=by simpa using hs
          rw [ep]
          by_cases h3:h.seen=3
          · simp only [pull8P,callG,h3,beq_self_eq_true,if_true,tn8,turn8]
            cases ht:turnCB c h.grow 3 6 (cellAt c h.grow).t with
            | true=>simp [fin7_done8]
            | false=>rw [turnC_same7 ht];simp [fin7_done8]
          · simp [pull8P,pull8,callG,h3,h0,fin7_nothing8]
        | false =>
          have h0:h.seen=0:=by simpa using hs
          have e8:growStepP c h=turn8 c h 1 0 (grown8 h):=by rw [ep];simp [pull8P,pull8,h0]
          cases ht:turnCB c h.grow 0 1 0 with
          | true =>
            refine ⟨(turnC c h.grow 0 1 0,grown8 h,true),?_,fun v1 v2 lo W o1 o2 _=>growTouch_19y c h v1 v2 lo W o1 o2 hc0 hc1 hs hcall hnx ht hq hk⟩
            rw [e8,fin7_done8]
            simp [turn8,h0,ht]
          | false =>
            refine ⟨(turnC c h.grow 0 1 0,{ h with pos:=18 },true),?_,fun v1 v2 lo W o1 o2 _=>growTouch_19n0 c h v1 v2 lo W o1 o2 hc0 hc1 hs ht hq hk⟩
            rw [e8,fin7_done8]
            simp [turn8,h0,ht]
      · have hq:(h.pos == 20)=true:=by simpa using hp
        refine ⟨wkS c { h with pos:=21 } { h with pos:=22 },?_,fun v1 v2 lo W o1 o2 hl=>growTouch_20 c h v1 v2 lo W o1 o2 hc hl hk hq⟩
        unfold wkS
        cases ht:tellB c h.wait 1 with
        | true=>simp [growStepP,growStep,hok,hp,raise8,ht,fin7_done8]
        | false=>simp [growStepP,growStep,hok,hp,raise8,ht,fin7_done8,tellC_no8 ht]
      · have hq:(h.pos == 21)=true:=by simpa using hp
        refine ⟨(stateC c h.grow 2,grown8 h,true),?_,fun v1 v2 lo W o1 o2 _=>growTouch_21 c h v1 v2 lo W o1 o2 hc0 hc1 hcall hnx hq hk⟩
        simp [growStepP,growStep,hok,hp,fin7_done8]
      · have hq:(h.pos == 22)=true:=by simpa using hp
        refine ⟨(stateC c h.grow 9,{ h with pos:=16 },true),?_,fun v1 v2 lo W o1 o2 _=>growTouch_22 c h v1 v2 lo W o1 o2 hc0 hc1 hq hk⟩
        simp [growStepP,growStep,hok,hp,fin7_done8]
    · have hno:stepOk c h 16 22 2=false:=by
        have:inB h.pos 16 22=false:=by simp [inB];omega
        simp [stepOk,this]
      have hp25:=hand_pos hh
      have far:∀ k:Int,16≤k→k≤22→(h.pos == k)=false:=fun k h1 h2=>by simp;omega
      exact ⟨nothing,by rw [fin7_nothing8];simp [growStepP,growStep,hno],fun v1 v2 lo W o1 o2 _=>growTouch_far c h v1 v2 lo W o1 o2 hk (far 16 (by omega) (by omega)) (far 17 (by omega) (by omega)) (far 18 (by omega) (by omega)) (far 19 (by omega) (by omega)) (far 20 (by omega) (by omega)) (far 21 (by omega) (by omega)) (far 22 (by omega) (by omega)) (by simp;omega)⟩
set_option maxRecDepth 100000 in
set_option maxHeartbeats 2000000 in
theorem growStepI_any (c:Ch) (h:Ha) (a b:Option Addr) (p q:Nat) (w:World) (h1:Seg w w.heap.size a c.cells.length 3 (cellF c.cells)) (z1:a=none→p=0) (h2:Seg w w.heap.size b c.words.length 1 (intF c.words)) (z2:b=none→q=0) (l1:c.cells.length≤maxLen) (l2:c.words.length≤maxLen) :
    Calls Tryz.prog 119 #[.agg (cvals c (.slice a c.cells.length p) (.slice b c.words.length q)),.agg (hvals h)] w fun r w'=>StepN w w' (growStepP c h) r:=by
  have K:∀ (w:World),Seg w w.heap.size a c.cells.length 3 (cellF c.cells)→(a=none→p=0)→Seg w w.heap.size b c.words.length 1 (intF c.words)→(b=none→q=0)→Calls Tryz.prog 78 #[.func (.func 120) #[] #[],.agg (cvals c (.slice a c.cells.length p) (.slice b c.words.length q)),.agg (hvals h)] w fun r w'=>StepN w w' (growStepP c h) r:=by
    intro w h1 z1 h2 z2
    cases hc:chanOk c with
    | false =>
      rw [show growStepP c h=nothing by simp [growStepP,growStep,stepOk,hc]]
      exact touched_no1 _ c h a b p q w h1 z1 h2 z2 l1 l2 hc
    | true =>
      cases hh:handOk h with
      | false =>
        rw [show growStepP c h=nothing by simp [growStepP,growStep,stepOk,hh]]
        exact touched_no2 _ c h a b p q w h1 z1 h2 z2 l1 l2 hc hh
      | true =>
        obtain ⟨x,e,HT⟩:=growTouch_any c h hc hh
        rw [e]
        exact touched_via _ x c h a b p q w h1 z1 h2 z2 hc hh (fun args w=>by simp [go_sem]) HT
  generalize growStepP c h=x at *
  have T:=Lib.hid K
  have H1:=Lib.hid h1
  have H2:=Lib.hid h2
  have Z1:=Lib.hid z1
  have Z2:=Lib.hid z2
  clear h1 h2 z1 z2 K
  have d1:∀ j,(Value.slice none 0 0).ownBlock=some j→w.heap.size+1+1+1+1≤j:=fun j hj=>by cases hj
  have d2:=d1
  go_enter Tryz.func119,Tryz.ntmps119
  go_wp2_with fail;refine bHit w (by exact zB) fun bb=>?_;refine (T.out _ ((H1.out.below bb).more bb.size) Z1.out ((H2.out.below bb).more bb.size) Z2.out).mono ?_;rintro _ w9 ⟨⟨y1,y2,rfl,oY1,oY2,fY1,fY2⟩,hbw9⟩;have hCw9:Below w.heap.size w w9:=bT bb hbw9;have hsw9:=hbw9.size;(try simp at hsw9);have zz:=q4 hbw9 (b:=w.heap.size);(try simp [go_sem] at zz);(try clear z_wppp x_wppp f_wppp l_wppp);(try clear z_wpp x_wpp f_wpp l_wpp);(try clear z_wp x_wp f_wp l_wp);(try clear z_w x_w f_w l_w);obtain ⟨z_wppp,z_wpp,z_wp,z_w⟩:=zz;obtain ⟨x_wppp,f_wppp,l_wppp⟩:=bO z_wppp;obtain ⟨x_wpp,f_wpp,l_wpp⟩:=bO z_wpp;obtain ⟨x_wp,f_wp,l_wp⟩:=bO z_wp;obtain ⟨x_w,f_w,l_w⟩:=bO z_w;clear hbw9 bb
  replace oY1:OCells w9 w.heap.size y1 x.1.cells:=own_lo oY1 (by simp;omega)
  replace oY2:OInts w9 w.heap.size y2 x.1.words:=own_lo oY2 (by simp;omega)
  have hoff1:∀ j,w.heap.size≤j→j<w.heap.size+1+1+1+1→y1.ownBlock≠some j:=fun j _ h2=>fY1.off2 d1 h2 (by (try simp) <;> omega);have hoff2:∀ j,w.heap.size≤j→j<w.heap.size+1+1+1+1→y2.ownBlock≠some j:=fun j _ h2=>fY2.off2 d2 h2 (by (try simp) <;> omega);have fr1:Fresh w (.slice none 0 0) y1:=fun j hj=>.inr (fY1.up d1 (by (try simp) <;> omega) (by (try simp) <;> omega) j hj);have fr2:Fresh w (.slice none 0 0) y2:=fun j hj=>.inr (fY2.up d2 (by (try simp) <;> omega) (by (try simp) <;> omega) j hj);obtain ⟨ya,yp,rfl,_⟩:=oY1.seg;obtain ⟨yb,yq,rfl,_⟩:=oY2.seg
  go_wp2
  refine bodyPost_ret (res_cct Tryz.results119 rfl (ldChan x.1 (.slice ya x.1.cells.length yp) (.slice yb x.1.words.length yq) (by simp [go_sem, *])) rfl (ldHand x.2.1 (by simp [go_sem, *]))) rfl ⟨⟨_,_,rfl,?_,?_,fr1,fr2⟩,by exact zB⟩
  · exact zP oY1 oY1 hoff1
  · exact zP oY2 oY2 hoff2
end Go.Proofs.YthfbnjfppjmgfaaGreat
set_option linter.unusedSimpArgs false
set_option linter.unusedVariables false
namespace Go.Proofs.YthfbnjfppjmgfaaGreat
open Go.RowKit
set_option linter.unusedSimpArgs false
attribute [local simp] bx_size
attribute [local go_sem ↓] zeroHand zeroChan toLHand toLChan toVHand toVChan storeHand storeChan storeHandC storeChanC
def heardH (h:Ha) (x:Int):Ha:=if x == 0 then h else if x == 2 then { h with pos:=25 } else if h.code == 1 then resting 1 0 else { h with pos:=24 }
theorem pWord_any (c:Ch) (v:Int) (v1 v2:Value) (lo:Nat) (w:World) (h1:OCells w lo v1 c.cells) (h2:OInts w lo v2 c.words) (hc:chanOk c=true) :
    Calls Tryz.prog 132 #[.agg (cvals c v1 v2),.int .i64 v] w fun r w'=>r=.returned (.int .i64 (wordOf c v))∧Below w.heap.size w w':=by
  obtain ⟨n1,n2⟩:=chan_len hc
  obtain ⟨a,p,rfl,g1⟩:=h1.seg
  obtain ⟨b,q,rfl,g2⟩:=h2.seg
  exact wordOf_any c v a b p q w g1 g2 (by unfold maxLen;omega) (by unfold maxLen;omega)
set_option maxRecDepth 100000 in
set_option maxHeartbeats 2000000 in
theorem ownWord_yes (c:Ch) (h:Ha) (v1 v2:Value) (lo:Nat) (w:World) (h1:OCells w lo v1 c.cells) (h2:OInts w lo v2 c.words) (hc:chanOk c=true) (x:Int) (hx:wordOf c h.mine=x) (hp:¬ x<0) :
    Calls Tryz.prog 128 #[.agg (cvals c v1 v2),.agg (hvals h)] w fun r w'=>r=.returned (.int .i64 x)∧Below w.heap.size w w':=by
  have WO:=Lib.hid fun W a b=>pWord_any c h.mine v1 v2 lo W a b hc
  rw [hx] at WO
  clear hx
  have b1:=fun j (hj:v1.ownBlock=some j)=>(h1.lt j hj).2
  have b2:=fun j (hj:v2.ownBlock=some j)=>(h2.lt j hj).2
  obtain ⟨a1,q1,rfl,_⟩:=h1.seg
  obtain ⟨a2,q2,rfl,_⟩:=h2.seg
  have O1:=Lib.hid h1
  have O2:=Lib.hid h2
  clear h1 h2
  have o1:=O1.out
  have o2:=O2.out
  go_enter Tryz.func128,Tryz.ntmps128
  go_wp2_with fail;refine bHit w (by exact zB) fun bb=>?_;refine (WO.out _ (by exact zO o1 o1) (by exact zO o2 o2)).mono ?_;rintro _ w1 ⟨rfl,hbw1⟩;have hCw1:Below w.heap.size w w1:=bT bb hbw1;have hsw1:=hbw1.size;(try simp at hsw1);have zz:=And.intro (hQ hbw1 (b:=w.heap.size+1)) <| hQ hbw1 (b:=w.heap.size);(try simp [go_sem] at zz);(try clear z_wp x_wp f_wp l_wp);(try clear z_w x_w f_w l_w);obtain ⟨z_wp,z_w⟩:=zz;obtain ⟨x_wp,f_wp,l_wp⟩:=bO z_wp;obtain ⟨x_w,f_w,l_w⟩:=bO z_w;clear hbw1 bb
  go_wp2
  go_ret
  exact ⟨rfl,by exact zB⟩
set_option maxRecDepth 100000 in
set_option maxHeartbeats 2000000 in
theorem ownWord_no (c:Ch) (h:Ha) (v1 v2:Value) (lo:Nat) (w:World) (h1:OCells w lo v1 c.cells) (h2:OInts w lo v2 c.words) (hc:chanOk c=true) (hx:wordOf c h.mine=-1) :
    Calls Tryz.prog 128 #[.agg (cvals c v1 v2),.agg (hvals h)] w fun e W'=>∃ T s,e=.panicked [{ v:=.iface T s,recovered:=false }]∧Below w.heap.size w W':=by
  have WO:=Lib.hid fun W a b=>pWord_any c h.mine v1 v2 lo W a b hc
  rw [hx] at WO
  clear hx
  have b1:=fun j (hj:v1.ownBlock=some j)=>(h1.lt j hj).2
  have b2:=fun j (hj:v2.ownBlock=some j)=>(h2.lt j hj).2
  obtain ⟨a1,q1,rfl,_⟩:=h1.seg
  obtain ⟨a2,q2,rfl,_⟩:=h2.seg
  have O1:=Lib.hid h1
  have O2:=Lib.hid h2
  clear h1 h2
  have o1:=O1.out
  have o2:=O2.out
  go_enter Tryz.func128,Tryz.ntmps128
  go_wp2_with fail;refine bHit w (by exact zB) fun bb=>?_;refine (WO.out _ (by exact zO o1 o1) (by exact zO o2 o2)).mono ?_;rintro _ w1 ⟨rfl,hbw1⟩;have hCw1:Below w.heap.size w w1:=bT bb hbw1;have hsw1:=hbw1.size;(try simp at hsw1);have zz:=And.intro (hQ hbw1 (b:=w.heap.size+1)) <| hQ hbw1 (b:=w.heap.size);(try simp [go_sem] at zz);(try clear z_wp x_wp f_wp l_wp);(try clear z_w x_w f_w l_w);obtain ⟨z_wp,z_w⟩:=zz;obtain ⟨x_wp,f_wp,l_wp⟩:=bO z_wp;obtain ⟨x_w,f_w,l_w⟩:=bO z_w;clear hbw1 bb
  go_wp2
  exact ⟨rfl,_,_,rfl,by exact zB⟩
theorem goneOf_any (k e:Int) (w:World):Calls Tryz.prog 131 #[.agg #[.int .i64 k,.int .i64 e]] w fun r w'=>r=.returned (.int .i64 (if k == 1 then 9 else 10))∧Below w.heap.size w w':=by
  go_enter Tryz.func131,Tryz.ntmps131
  go_wp2
  all_goals go_ret
  all_goals exact ⟨ret_i64 (by simp_all),by exact zB⟩
set_option maxRecDepth 100000 in
set_option maxHeartbeats 2000000 in
theorem heard_0 (h:Ha) (x:Int) (w:World) (hx:x=0):Calls Tryz.prog 129 #[.agg (hvals h),.int .i64 x] w fun r w'=>r=.returned (.agg (hvals h))∧Below w.heap.size w w':=by
  go_enter Tryz.func129,Tryz.ntmps129
  subst hx
  go_wp2
  exact bodyPost_ret (res_c Tryz.results129 rfl (ldHand h (by simp [go_sem, *] <;> rfl))) rfl ⟨rfl,by exact zB⟩
set_option maxRecDepth 100000 in
set_option maxHeartbeats 2000000 in
theorem heard_2 (h:Ha) (x:Int) (w:World) (hx:x=2):Calls Tryz.prog 129 #[.agg (hvals h),.int .i64 x] w fun r w'=>r=.returned (.agg (hvals { h with pos:=25 }))∧Below w.heap.size w w':=by
  go_enter Tryz.func129,Tryz.ntmps129
  subst hx
  go_wp2_with fail;refine bHit w (by exact zB) fun bb=>?_;refine (moved_any _ _ _).mono ?_;rintro _ w1 ⟨rfl,hbw1⟩;have hCw1:Below w.heap.size w w1:=bT bb hbw1;have hsw1:=hbw1.size;(try simp at hsw1);have zz:=And.intro (hQ hbw1 (b:=w.heap.size+1)) <| hQ hbw1 (b:=w.heap.size);(try simp [go_sem] at zz);(try clear z_wp x_wp f_wp l_wp);(try clear z_w x_w f_w l_w);obtain ⟨z_wp,z_w⟩:=zz;obtain ⟨x_wp,f_wp,l_wp⟩:=bO z_wp;obtain ⟨x_w,f_w,l_w⟩:=bO z_w;clear hbw1 bb
  go_wp2
  exact bodyPost_ret (res_c Tryz.results129 rfl (ldHand { h with pos:=25 } (by simp [go_sem, *] <;> rfl))) rfl ⟨rfl,by exact zB⟩
set_option maxRecDepth 100000 in
set_option maxHeartbeats 2000000 in
theorem heard_s (h:Ha) (x:Int) (w:World) (h0:(x == 0)=false) (h2:(x == 2)=false) (hk:(h.code == 1)=true):Calls Tryz.prog 129 #[.agg (hvals h),.int .i64 x] w fun r w'=>r=.returned (.agg (hvals (resting 1 0)))∧Below w.heap.size w w':=by
  go_enter Tryz.func129,Tryz.ntmps129
  go_wp2_with fail;refine bHit w (by exact zB) fun bb=>?_;refine (resting_any _ _ _).mono ?_;rintro _ w1 ⟨rfl,hbw1⟩;have hCw1:Below w.heap.size w w1:=bT bb hbw1;have hsw1:=hbw1.size;(try simp at hsw1);have zz:=And.intro (hQ hbw1 (b:=w.heap.size+1)) <| hQ hbw1 (b:=w.heap.size);(try simp [go_sem] at zz);(try clear z_wp x_wp f_wp l_wp);(try clear z_w x_w f_w l_w);obtain ⟨z_wp,z_w⟩:=zz;obtain ⟨x_wp,f_wp,l_wp⟩:=bO z_wp;obtain ⟨x_w,f_w,l_w⟩:=bO z_w;clear hbw1 bb
  go_wp2
  exact bodyPost_ret (res_c Tryz.results129 rfl (ldHand (resting 1 0) (by simp [go_sem, *] <;> rfl))) rfl ⟨rfl,by exact zB⟩
set_option maxRecDepth 100000 in
set_option maxHeartbeats 2000000 in
theorem heard_r (h:Ha) (x:Int) (w:World) (h0:(x == 0)=false) (h2:(x == 2)=false) (hk:(h.code == 1)=false):Calls Tryz.prog 129 #[.agg (hvals h),.int .i64 x] w fun r w'=>r=.returned (.agg (hvals { h with pos:=24 }))∧Below w.heap.size w w':=by
  go_enter Tryz.func129,Tryz.ntmps129
  go_wp2_with fail;refine bHit w (by exact zB) fun bb=>?_;refine (moved_any _ _ _).mono ?_;rintro _ w1 ⟨rfl,hbw1⟩;have hCw1:Below w.heap.size w w1:=bT bb hbw1;have hsw1:=hbw1.size;(try simp at hsw1);have zz:=And.intro (hQ hbw1 (b:=w.heap.size+1)) <| hQ hbw1 (b:=w.heap.size);(try simp [go_sem] at zz);(try clear z_wp x_wp f_wp l_wp);(try clear z_w x_w f_w l_w);obtain ⟨z_wp,z_w⟩:=zz;obtain ⟨x_wp,f_wp,l_wp⟩:=bO z_wp;obtain ⟨x_w,f_w,l_w⟩:=bO z_w;clear hbw1 bb
  go_wp2
  exact bodyPost_ret (res_c Tryz.results129 rfl (ldHand { h with pos:=24 } (by simp [go_sem, *] <;> rfl))) rfl ⟨rfl,by exact zB⟩
theorem heard_any (h:Ha) (x:Int) (w:World):Calls Tryz.prog 129 #[.agg (hvals h),.int .i64 x] w fun r w'=>r=.returned (.agg (hvals (heardH h x)))∧Below w.heap.size w w':=by
  by_cases h0:x=0
  · rw [show heardH h x=h by simp [heardH,h0]]
    exact heard_0 h x w h0
  by_cases h2:x=2
  · rw [show heardH h x={ h with pos:=25 } by simp [heardH,h2]]
    exact heard_2 h x w h2
  have e0:(x == 0)=false:=by simpa using h0
  have e2:(x == 2)=false:=by simpa using h2
  cases hk:(h.code == 1) with
  | true =>
    rw [show heardH h x=resting 1 0 by simp only [heardH,e0,e2,hk];rfl]
    exact heard_s h x w e0 e2 hk
  | false =>
    rw [show heardH h x={ h with pos:=24 } by simp only [heardH,e0,e2,hk];rfl]
    exact heard_r h x w e0 e2 hk
set_option maxRecDepth 100000 in
set_option maxHeartbeats 2000000 in
theorem fetched_no (c:Ch) (h:Ha) (v1 v2:Value) (lo:Nat) (w:World) (h1:OCells w lo v1 c.cells) (h2:OInts w lo v2 c.words) (hk:(h.code != 2)=true) :
    Calls Tryz.prog 130 #[.agg (cvals c v1 v2),.agg (hvals h)] w fun e W'=>∃ T s,e=.panicked [{ v:=.iface T s,recovered:=false }]∧Below w.heap.size w W':=by
  have b1:=fun j (hj:v1.ownBlock=some j)=>(h1.lt j hj).2
  have b2:=fun j (hj:v2.ownBlock=some j)=>(h2.lt j hj).2
  obtain ⟨a1,q1,rfl,_⟩:=h1.seg
  obtain ⟨a2,q2,rfl,_⟩:=h2.seg
  have O1:=Lib.hid h1
  have O2:=Lib.hid h2
  clear h1 h2
  have o1:=O1.out
  have o2:=O2.out
  go_enter Tryz.func130,Tryz.ntmps130
  go_wp2
  exact ⟨rfl,_,_,rfl,by exact zB⟩
set_option maxRecDepth 100000 in
set_option maxHeartbeats 2000000 in
theorem fetched_yes (c:Ch) (h:Ha) (v1 v2:Value) (lo:Nat) (w:World) (h1:OCells w lo v1 c.cells) (h2:OInts w lo v2 c.words) (hc0:0≤h.cell) (hc1:h.cell<c.cells.length) (hk:(h.code != 2)=false) :
    Calls Tryz.prog 130 #[.agg (cvals c v1 v2),.agg (hvals h)] w fun r w'=>r=.returned (.agg (hvals (resting 2 (cellAt c h.cell).e)))∧Below w.heap.size w w':=by
  obtain ⟨i,hci⟩:∃ i:Nat,h.cell=(i:Int):=⟨h.cell.toNat,by omega⟩
  have hi:i<c.cells.length:=by omega
  have hi0:(0:Int)≤(i:Int):=by omega
  have hi1:(i:Int)<(c.cells.length:Int):=by omega
  have hne:=h1.ne h2
  obtain ⟨a2,q2,rfl,_⟩:=h2.seg
  obtain ⟨g,q1,rfl,hlo1,hlt,hcell,hfr⟩:=h1.open1 hi
  have O1:=Lib.hid h1
  have O2:=Lib.hid h2
  have lg0:g<w.heap.size+1:=by omega
  have lg1:g<w.heap.size+1+1:=by omega
  have lg2:g<w.heap.size+1+1+1:=by omega
  have ng0:g≠w.heap.size:=by omega
  have ng1:g≠w.heap.size+1:=by omega
  have ng2:g≠w.heap.size+1+1:=by omega
  have ng3:g≠w.heap.size+1+1+1:=by omega
  have mg0:w.heap.size≠g:=by omega
  have mg1:w.heap.size+1≠g:=by omega
  have mg2:w.heap.size+1+1≠g:=by omega
  have mg3:w.heap.size+1+1+1≠g:=by omega
  have hx:Hid (cellAt c h.cell=c.cells.getD i ⟨0,0,0⟩):=by simp [cellAt,Hid,hci]
  have c0:=hcell 0 (by omega)
  have c1:=hcell 1 (by omega)
  have c2:=hcell 2 (by omega)
  simp only [C3.val,Nat.add_zero] at c0 c1 c2
  have ex:=hx.out
  rw [ex]
  generalize c.cells.getD i ⟨0,0,0⟩=x at *
  obtain ⟨s,e,t⟩:=x
  simp only at c0 c1 c2 ⊢
  clear hx ex hcell h1 h2
  go_enter Tryz.func130,Tryz.ntmps130
  go_wp2_with fail;refine bHit w (by exact zB) fun bb=>?_;refine (resting_any _ _ _).mono ?_;rintro _ w1 ⟨rfl,hbw1⟩;have hCw1:Below w.heap.size w w1:=bT bb hbw1;have hsw1:=hbw1.size;(try simp at hsw1);have zz:=And.intro (hQ hbw1 (b:=w.heap.size+1+1)) <| And.intro (hQ hbw1 (b:=w.heap.size+1)) <| hQ hbw1 (b:=w.heap.size);(try simp [go_sem] at zz);(try clear z_wpp x_wpp f_wpp l_wpp);(try clear z_wp x_wp f_wp l_wp);(try clear z_w x_w f_w l_w);obtain ⟨z_wpp,z_wp,z_w⟩:=zz;obtain ⟨x_wpp,f_wpp,l_wpp⟩:=bO z_wpp;obtain ⟨x_wp,f_wp,l_wp⟩:=bO z_wp;obtain ⟨x_w,f_w,l_w⟩:=bO z_w;clear hbw1 bb
  go_wp2
  exact bodyPost_ret (res_c Tryz.results130 rfl (ldHand (resting 2 e) (by simp [go_sem, *] <;> rfl))) rfl ⟨rfl,by exact zB⟩
end Go.Proofs.YthfbnjfppjmgfaaGreat
set_option linter.unusedSimpArgs false
set_option linter.unusedVariables false
namespace Go.Proofs.YthfbnjfppjmgfaaGreat
open Go.RowKit
set_option linter.unusedSimpArgs false
attribute [local simp] bx_size
attribute [local go_sem ↓] zeroHand zeroChan toLHand toLChan toVHand toVChan storeHand storeChan storeHandC storeChanC
set_option maxRecDepth 100000 in
set_option maxHeartbeats 2000000 in
theorem parkTouch_n (c:Ch) (h:Ha) (v1 v2:Value) (lo:Nat) (w:World) (h1:OCells w lo v1 c.cells) (h2:OInts w lo v2 c.words) (hc:chanOk c=true) (hx:wordOf c h.mine=-1) :
    Calls Tryz.prog 127 #[.agg (cvals c v1 v2),.agg (hvals h)] w fun e W'=>∃ T s,e=.panicked [{ v:=.iface T s,recovered:=false }]∧Below w.heap.size w W':=by
  have OW:=Lib.hid fun W a b=>ownWord_no c h v1 v2 lo W a b hc hx
  clear hx hc
  have b1:=fun j (hj:v1.ownBlock=some j)=>(h1.lt j hj).2
  have b2:=fun j (hj:v2.ownBlock=some j)=>(h2.lt j hj).2
  obtain ⟨a1,q1,rfl,_⟩:=h1.seg
  obtain ⟨a2,q2,rfl,_⟩:=h2.seg
  have O1:=Lib.hid h1
  have O2:=Lib.hid h2
  clear h1 h2
  have o1:=O1.out
  have o2:=O2.out
  go_enter Tryz.func127,Tryz.ntmps127
  go_wp2_with fail
  refine bHit w (by exact zB) fun bb=>?_
  refine (OW.out _ (by exact zO o1 o1) (by exact zO o2 o2)).mono ?_
  rintro _ w1 ⟨T,s,rfl,hE⟩
  go_wp2
  exact ⟨rfl,T,s,rfl,bT bb hE⟩
set_option maxRecDepth 100000 in
set_option maxHeartbeats 2000000 in
theorem parkTouch_23 (c:Ch) (h:Ha) (v1 v2:Value) (lo:Nat) (w:World) (h1:OCells w lo v1 c.cells) (h2:OInts w lo v2 c.words) (hc:chanOk c=true) (x:Int) (hx:wordOf c h.mine=x) (hp:¬ x<0) (hq:(h.pos == 23)=true) :
    Calls Tryz.prog 127 #[.agg (cvals c v1 v2),.agg (hvals h)] w fun r w'=>StepO w w' lo v1 v2 ((c,heardH h x,x != 0)) r:=by
  have OW:=Lib.hid fun W a b=>ownWord_yes c h v1 v2 lo W a b hc x hx hp
  clear hx hp hc
  have HE:=Lib.hid fun W=>heard_any h x W
  obtain ⟨y,hy⟩:∃ y,heardH h x=y:=⟨_,rfl⟩
  rw [hy] at HE
  rw [hy]
  clear hy
  have b1:=fun j (hj:v1.ownBlock=some j)=>(h1.lt j hj).2
  have b2:=fun j (hj:v2.ownBlock=some j)=>(h2.lt j hj).2
  obtain ⟨a1,q1,rfl,_⟩:=h1.seg
  obtain ⟨a2,q2,rfl,_⟩:=h2.seg
  have O1:=Lib.hid h1
  have O2:=Lib.hid h2
  clear h1 h2
  have o1:=O1.out
  have o2:=O2.out
  go_enter Tryz.func127,Tryz.ntmps127
  go_wp2_with fail;refine bHit w (by exact zB) fun bb=>?_;refine (OW.out _ (by exact zO o1 o1) (by exact zO o2 o2)).mono ?_;rintro _ w1 ⟨rfl,hbw1⟩;have hCw1:Below w.heap.size w w1:=bT bb hbw1;have hsw1:=hbw1.size;(try simp at hsw1);have zz:=q4 hbw1 (b:=w.heap.size);(try simp [go_sem] at zz);(try clear z_wppp x_wppp f_wppp l_wppp);(try clear z_wpp x_wpp f_wpp l_wpp);(try clear z_wp x_wp f_wp l_wp);(try clear z_w x_w f_w l_w);obtain ⟨z_wppp,z_wpp,z_wp,z_w⟩:=zz;obtain ⟨x_wppp,f_wppp,l_wppp⟩:=bO z_wppp;obtain ⟨x_wpp,f_wpp,l_wpp⟩:=bO z_wpp;obtain ⟨x_wp,f_wp,l_wp⟩:=bO z_wp;obtain ⟨x_w,f_w,l_w⟩:=bO z_w;have hKw1:Below w.heap.size w w1:=hCw1;clear hbw1 bb
  have p1:=own_below o1 hKw1
  have p2:=own_below o2 hKw1
  have k0:w.heap.size<w1.heap.size:=by omega
  have k1:w.heap.size+1<w1.heap.size:=by omega
  have k2:w.heap.size+1+1<w1.heap.size:=by omega
  have k3:w.heap.size+1+1+1<w1.heap.size:=by omega
  go_wp2_with fail
  go_region_held3 (fun w'=>hp w' w.heap.size=some (.cells (cvals c (.slice a1 c.cells.length q1) (.slice a2 c.words.length q2)) 34)∧hp w' (w.heap.size+1)=some (.cells (hvals h) 38))
    (first|(simp [*,go_sem]))
    (first|((go_at_call 129;refine bHit w (by exact zB) fun bb=>?_;refine bHit w1 (by exact zB) fun bk=>?_;refine (HE.out _).mono ?_;rintro _ w2 ⟨rfl,hbw2⟩;have hCw2:Below w.heap.size w w2:=bT bb hbw2;have hsw2:=hbw2.size;(try simp at hsw2);have zz:=q4 hbw2 (b:=w.heap.size);(first|simp [go_sem,z_wppp,z_wpp,z_wp,z_w,l_w,l_wp,l_wpp,l_wppp,k0,k1,k2,k3] at zz|simp [go_sem] at zz|skip);(try clear z_wppp x_wppp f_wppp l_wppp);(try clear z_wpp x_wpp f_wpp l_wpp);(try clear z_wp x_wp f_wp l_wp);(try clear z_w x_w f_w l_w);obtain ⟨z_wppp,z_wpp,z_wp,z_w⟩:=zz;obtain ⟨x_wppp,f_wppp,l_wppp⟩:=bO z_wppp;obtain ⟨x_wpp,f_wpp,l_wpp⟩:=bO z_wpp;obtain ⟨x_wp,f_wp,l_wp⟩:=bO z_wp;obtain ⟨x_w,f_w,l_w⟩:=bO z_w;have hKw2:Below w1.heap.size w1 w2:=bT bk hbw2;clear hbw2 bb bk);have r1:=own_below p1 hKw2;have r2:=own_below p2 hKw2))
  go_wp2
  refine bodyPost_ret (res_cct Tryz.results127 rfl (ldChan c (.slice a1 c.cells.length q1) (.slice a2 c.words.length q2) (by simp [go_sem, *] <;> rfl)) rfl (ldHand y (by simp [go_sem, *] <;> rfl))) rfl ⟨⟨_,_,rfl,?_,?_,fresh_refl _ _,fresh_refl _ _⟩,onlB (by exact zB)⟩
  · exact zO r1 o1
  · exact zO r2 o2
set_option maxRecDepth 100000 in
set_option maxHeartbeats 2000000 in
theorem parkTouch_24n (c:Ch) (h:Ha) (v1 v2:Value) (lo:Nat) (w:World) (h1:OCells w lo v1 c.cells) (h2:OInts w lo v2 c.words) (hc:chanOk c=true) (x:Int) (hx:wordOf c h.mine=x) (hp:¬ x<0) (hq:(h.pos == 24)=true) (hk:(h.code != 2)=true) :
    Calls Tryz.prog 127 #[.agg (cvals c v1 v2),.agg (hvals h)] w fun e W'=>∃ T s,e=.panicked [{ v:=.iface T s,recovered:=false }]∧Below w.heap.size w W':=by
  have OW:=Lib.hid fun W a b=>ownWord_yes c h v1 v2 lo W a b hc x hx hp
  clear hx hp hc
  have FE:=Lib.hid fun W a b=>fetched_no c h v1 v2 lo W a b hk
  clear hk
  have hq3:(h.pos == 23)=false:=by simp at hq ⊢;omega
  have b1:=fun j (hj:v1.ownBlock=some j)=>(h1.lt j hj).2
  have b2:=fun j (hj:v2.ownBlock=some j)=>(h2.lt j hj).2
  obtain ⟨a1,q1,rfl,_⟩:=h1.seg
  obtain ⟨a2,q2,rfl,_⟩:=h2.seg
  have O1:=Lib.hid h1
  have O2:=Lib.hid h2
  clear h1 h2
  have o1:=O1.out
  have o2:=O2.out
  go_enter Tryz.func127,Tryz.ntmps127
  go_wp2_with fail;refine bHit w (by exact zB) fun bb=>?_;refine (OW.out _ (by exact zO o1 o1) (by exact zO o2 o2)).mono ?_;rintro _ w1 ⟨rfl,hbw1⟩;have hCw1:Below w.heap.size w w1:=bT bb hbw1;have hsw1:=hbw1.size;(try simp at hsw1);have zz:=q4 hbw1 (b:=w.heap.size);(try simp [go_sem] at zz);(try clear z_wppp x_wppp f_wppp l_wppp);(try clear z_wpp x_wpp f_wpp l_wpp);(try clear z_wp x_wp f_wp l_wp);(try clear z_w x_w f_w l_w);obtain ⟨z_wppp,z_wpp,z_wp,z_w⟩:=zz;obtain ⟨x_wppp,f_wppp,l_wppp⟩:=bO z_wppp;obtain ⟨x_wpp,f_wpp,l_wpp⟩:=bO z_wpp;obtain ⟨x_wp,f_wp,l_wp⟩:=bO z_wp;obtain ⟨x_w,f_w,l_w⟩:=bO z_w;have hKw1:Below w.heap.size w w1:=hCw1;clear hbw1 bb
  have p1:=own_below o1 hKw1
  have p2:=own_below o2 hKw1
  have k0:w.heap.size<w1.heap.size:=by omega
  have k1:w.heap.size+1<w1.heap.size:=by omega
  have k2:w.heap.size+1+1<w1.heap.size:=by omega
  have k3:w.heap.size+1+1+1<w1.heap.size:=by omega
  go_upto_region 6 with fail
  refine wp_region_inv [[],[],[],[1,2],[0],[1,2,3],[]] [23,24,25,26,6] (fun l s wx=>(Below w.heap.size w wx)∧(hp wx w.heap.size=some (.cells (cvals c (.slice a1 c.cells.length q1) (.slice a2 c.words.length q2)) 34))∧(hp wx (w.heap.size+1)=some (.cells (hvals h) 38))∧(l 4=false→hp wx (w.heap.size+1+1)=some (.cells (cvals Ch.zero (.slice none 0 0) (.slice none 0 0)) 34))∧(OCells wx lo (.slice a1 c.cells.length q1) c.cells)∧(OInts wx lo (.slice a2 c.words.length q2) c.words)∧(l 0=true→s 23=.agg (cvals c (.slice a1 c.cells.length q1) (.slice a2 c.words.length q2)))∧(l 1=true→s 24=.agg (cvals c (.slice a1 c.cells.length q1) (.slice a2 c.words.length q2)))∧(l 2=true→s 25=.agg (hvals h))∧(l 3=true→False)) (by kernel_rfl) (by kernel_rfl) (by kernel_rfl) (fun s=>by (simp only [fill,fillA,List.setIfInBounds_toArray,List.set_cons_zero,List.set_cons_succ];rfl)) (fun s=>⟨(by exact zB),by simp [go_sem, *],by simp [go_sem, *],fun _=>by simp [go_sem, *],oDr p1,oDr p2,fun h=>absurd h Bool.false_ne_true,fun h=>absurd h Bool.false_ne_true,fun h=>absurd h Bool.false_ne_true,fun h=>absurd h Bool.false_ne_true⟩) ?_ ?_
  refine ⟨?_,?_,?_,?_,?_,?_,?_,trivial⟩;rotate_left 7
  · intro l s w8 hall hf
    exact (hf.2.2.2.2.2.2.2.2.2 (hall 3 rfl)).elim
  · intro l s wx hl hd hn hf0 K hK
    have hf:=Lib.hid hf0
    clear hf0
    have zc:=hf.out.2.1
    go_simp
    refine hK.out (upd s 23 (.agg (cvals c (.slice a1 c.cells.length q1) (.slice a2 c.words.length q2)))) _ _ (by simp [upd_at] <;> rfl) ⟨hf.out.1,hf.out.2.1,hf.out.2.2.1,hf.out.2.2.2.1,hf.out.2.2.2.2.1,hf.out.2.2.2.2.2.1,fun _=>rfl,hf.out.2.2.2.2.2.2.2.1,hf.out.2.2.2.2.2.2.2.2.1,hf.out.2.2.2.2.2.2.2.2.2⟩
  · intro l s wx hl hd hn hf0 K hK
    have hf:=Lib.hid hf0
    clear hf0
    have zc:=hf.out.2.1
    go_simp
    refine hK.out (upd s 24 (.agg (cvals c (.slice a1 c.cells.length q1) (.slice a2 c.words.length q2)))) _ _ (by simp [upd_at] <;> rfl) ⟨hf.out.1,hf.out.2.1,hf.out.2.2.1,hf.out.2.2.2.1,hf.out.2.2.2.2.1,hf.out.2.2.2.2.2.1,hf.out.2.2.2.2.2.2.1,fun _=>rfl,hf.out.2.2.2.2.2.2.2.2.1,nU (hn 3 rfl)⟩
  · intro l s wx hl hd hn hf0 K hK
    have hf:=Lib.hid hf0
    clear hf0
    have zh:=hf.out.2.2.1
    go_simp
    refine hK.out (upd s 25 (.agg (hvals h))) _ _ (by simp [upd_at] <;> rfl) ⟨hf.out.1,hf.out.2.1,hf.out.2.2.1,hf.out.2.2.2.1,hf.out.2.2.2.2.1,hf.out.2.2.2.2.2.1,hf.out.2.2.2.2.2.2.1,hf.out.2.2.2.2.2.2.2.1,fun _=>rfl,nU (hn 3 rfl)⟩
  · intro l s wx hl hd hn hf0 K hK
    have hf:=Lib.hid hf0
    clear hf0
    have e1:=(hf.out.2.2.2.2.2.2.2.1 (hd 1 rfl))
    have e2:=(hf.out.2.2.2.2.2.2.2.2.1 (hd 2 rfl))
    go_simp
    go_at_call 130
    refine (FE.out _ hf.out.2.2.2.2.1 hf.out.2.2.2.2.2.1).mono ?_
    rintro _ wy ⟨T,sv,rfl,hE⟩
    exact ⟨rfl,T,sv,rfl,bT hf.out.1 hE⟩
  · intro l s wx hl hd hn hf0 K hK
    have hf:=Lib.hid hf0
    clear hf0
    have e0:=(hf.out.2.2.2.2.2.2.1 (hd 0 rfl))
    have hB:=hf.out.1
    have zr:=hf.out.2.2.2.1 hl
    go_simp
    refine hK.out (s) _ _ (by simp [upd_at,e0] <;> rfl) ⟨bBx hB (by omega),(bx_heap_ne (by omega)).trans hf.out.2.1,(bx_heap_ne (by omega)).trans hf.out.2.2.1,fun h9=>absurd h9 (by rw [show upd l 4 true 4=true from rfl];decide),own_far hf.out.2.2.2.2.1 zr (by decide),own_far hf.out.2.2.2.2.2.1 zr (by decide),hf.out.2.2.2.2.2.2.1,hf.out.2.2.2.2.2.2.2.1,hf.out.2.2.2.2.2.2.2.2.1,hf.out.2.2.2.2.2.2.2.2.2⟩
  · intro l s wx hl hd hn hf0 K hK
    exact (hf0.2.2.2.2.2.2.2.2.2 (hd 3 rfl)).elim
  · intro l s wx hl hd hn hf0 K hK
    have hf:=Lib.hid hf0
    clear hf0
    go_simp
    refine hK.out (upd s 6 (.bool true)) _ _ (by simp [upd_at] <;> rfl) ⟨hf.out.1,hf.out.2.1,hf.out.2.2.1,hf.out.2.2.2.1,hf.out.2.2.2.2.1,hf.out.2.2.2.2.2.1,hf.out.2.2.2.2.2.2.1,hf.out.2.2.2.2.2.2.2.1,hf.out.2.2.2.2.2.2.2.2.1,hf.out.2.2.2.2.2.2.2.2.2⟩
set_option maxRecDepth 100000 in
set_option maxHeartbeats 2000000 in
theorem parkTouch_24 (c:Ch) (h:Ha) (v1 v2:Value) (lo:Nat) (w:World) (h1:OCells w lo v1 c.cells) (h2:OInts w lo v2 c.words) (hc0:0≤h.cell) (hc1:h.cell<c.cells.length) (hc:chanOk c=true) (x:Int) (hx:wordOf c h.mine=x) (hp:¬ x<0) (hq:(h.pos == 24)=true) (hk:(h.code != 2)=false) :
    Calls Tryz.prog 127 #[.agg (cvals c v1 v2),.agg (hvals h)] w fun r w'=>StepO w w' lo v1 v2 ((c,resting 2 (cellAt c h.cell).e,true)) r:=by
  have OW:=Lib.hid fun W a b=>ownWord_yes c h v1 v2 lo W a b hc x hx hp
  clear hx hp hc
  have FE:=Lib.hid fun W a b=>fetched_yes c h v1 v2 lo W a b hc0 hc1 hk
  clear hk hc0 hc1
  have hq3:(h.pos == 23)=false:=by simp at hq ⊢;omega
  obtain ⟨y,hy⟩:∃ y,resting 2 (cellAt c h.cell).e=y:=⟨_,rfl⟩
  rw [hy] at FE
  rw [hy]
  clear hy
  have b1:=fun j (hj:v1.ownBlock=some j)=>(h1.lt j hj).2
  have b2:=fun j (hj:v2.ownBlock=some j)=>(h2.lt j hj).2
  obtain ⟨a1,q1,rfl,_⟩:=h1.seg
  obtain ⟨a2,q2,rfl,_⟩:=h2.seg
  have O1:=Lib.hid h1
  have O2:=Lib.hid h2
  clear h1 h2
  have o1:=O1.out
  have o2:=O2.out
  go_enter Tryz.func127,Tryz.ntmps127
  go_wp2_with fail;refine bHit w (by exact zB) fun bb=>?_;refine (OW.out _ (by exact zO o1 o1) (by exact zO o2 o2)).mono ?_;rintro _ w1 ⟨rfl,hbw1⟩;have hCw1:Below w.heap.size w w1:=bT bb hbw1;have hsw1:=hbw1.size;(try simp at hsw1);have zz:=q4 hbw1 (b:=w.heap.size);(try simp [go_sem] at zz);(try clear z_wppp x_wppp f_wppp l_wppp);(try clear z_wpp x_wpp f_wpp l_wpp);(try clear z_wp x_wp f_wp l_wp);(try clear z_w x_w f_w l_w);obtain ⟨z_wppp,z_wpp,z_wp,z_w⟩:=zz;obtain ⟨x_wppp,f_wppp,l_wppp⟩:=bO z_wppp;obtain ⟨x_wpp,f_wpp,l_wpp⟩:=bO z_wpp;obtain ⟨x_wp,f_wp,l_wp⟩:=bO z_wp;obtain ⟨x_w,f_w,l_w⟩:=bO z_w;have hKw1:Below w.heap.size w w1:=hCw1;clear hbw1 bb
  have p1:=own_below o1 hKw1
  have p2:=own_below o2 hKw1
  have k0:w.heap.size<w1.heap.size:=by omega
  have k1:w.heap.size+1<w1.heap.size:=by omega
  have k2:w.heap.size+1+1<w1.heap.size:=by omega
  have k3:w.heap.size+1+1+1<w1.heap.size:=by omega
  go_wp2_with fail
  go_region_held3 (fun w'=>hp w' w.heap.size=some (.cells (cvals c (.slice a1 c.cells.length q1) (.slice a2 c.words.length q2)) 34)∧hp w' (w.heap.size+1)=some (.cells (hvals h) 38))
    (first|(simp [*,go_sem]))
    (first|((go_at_call 130;refine bHit w (by exact zB) fun bb=>?_;refine bHit w1 (by exact zB) fun bk=>?_;refine (FE.out _ (by exact zO p1 p1) (by exact zO p2 p2)).mono ?_;rintro _ w2 ⟨rfl,hbw2⟩;have hCw2:Below w.heap.size w w2:=bT bb hbw2;have hsw2:=hbw2.size;(try simp at hsw2);have zz:=q4 hbw2 (b:=w.heap.size);(first|simp [go_sem,z_wppp,z_wpp,z_wp,z_w,l_w,l_wp,l_wpp,l_wppp,k0,k1,k2,k3] at zz|simp [go_sem] at zz|skip);(try clear z_wppp x_wppp f_wppp l_wppp);(try clear z_wpp x_wpp f_wpp l_wpp);(try clear z_wp x_wp f_wp l_wp);(try clear z_w x_w f_w l_w);obtain ⟨z_wppp,z_wpp,z_wp,z_w⟩:=zz;obtain ⟨x_wppp,f_wppp,l_wppp⟩:=bO z_wppp;obtain ⟨x_wpp,f_wpp,l_wpp⟩:=bO z_wpp;obtain ⟨x_wp,f_wp,l_wp⟩:=bO z_wp;obtain ⟨x_w,f_w,l_w⟩:=bO z_w;have hKw2:Below w1.heap.size w1 w2:=bT bk hbw2;clear hbw2 bb bk);have r1:=own_below p1 hKw2;have r2:=own_below p2 hKw2))
  go_wp2
  refine bodyPost_ret (res_cct Tryz.results127 rfl (ldChan c (.slice a1 c.cells.length q1) (.slice a2 c.words.length q2) (by simp [go_sem, *] <;> rfl)) rfl (ldHand y (by simp [go_sem, *] <;> rfl))) rfl ⟨⟨_,_,rfl,?_,?_,fresh_refl _ _,fresh_refl _ _⟩,onlB (by exact zB)⟩
  · exact zO r1 o1
  · exact zO r2 o2
set_option maxRecDepth 100000 in
set_option maxHeartbeats 2000000 in
theorem parkTouch_o (c:Ch) (h:Ha) (v1 v2:Value) (lo:Nat) (w:World) (h1:OCells w lo v1 c.cells) (h2:OInts w lo v2 c.words) (hc:chanOk c=true) (x:Int) (hx:wordOf c h.mine=x) (hp:¬ x<0) (hq:(h.pos == 23)=false) (hq4:(h.pos == 24)=false) (hq5:(h.pos == 25)=false) :
    Calls Tryz.prog 127 #[.agg (cvals c v1 v2),.agg (hvals h)] w fun e W'=>∃ T s,e=.panicked [{ v:=.iface T s,recovered:=false }]∧Below w.heap.size w W':=by
  have OW:=Lib.hid fun W a b=>ownWord_yes c h v1 v2 lo W a b hc x hx hp
  clear hx hp hc
  have b1:=fun j (hj:v1.ownBlock=some j)=>(h1.lt j hj).2
  have b2:=fun j (hj:v2.ownBlock=some j)=>(h2.lt j hj).2
  obtain ⟨a1,q1,rfl,_⟩:=h1.seg
  obtain ⟨a2,q2,rfl,_⟩:=h2.seg
  have O1:=Lib.hid h1
  have O2:=Lib.hid h2
  clear h1 h2
  have o1:=O1.out
  have o2:=O2.out
  go_enter Tryz.func127,Tryz.ntmps127
  go_wp2_with fail;refine bHit w (by exact zB) fun bb=>?_;refine (OW.out _ (by exact zO o1 o1) (by exact zO o2 o2)).mono ?_;rintro _ w1 ⟨rfl,hbw1⟩;have hCw1:Below w.heap.size w w1:=bT bb hbw1;have hsw1:=hbw1.size;(try simp at hsw1);have zz:=q4 hbw1 (b:=w.heap.size);(try simp [go_sem] at zz);(try clear z_wppp x_wppp f_wppp l_wppp);(try clear z_wpp x_wpp f_wpp l_wpp);(try clear z_wp x_wp f_wp l_wp);(try clear z_w x_w f_w l_w);obtain ⟨z_wppp,z_wpp,z_wp,z_w⟩:=zz;obtain ⟨x_wppp,f_wppp,l_wppp⟩:=bO z_wppp;obtain ⟨x_wpp,f_wpp,l_wpp⟩:=bO z_wpp;obtain ⟨x_wp,f_wp,l_wp⟩:=bO z_wp;obtain ⟨x_w,f_w,l_w⟩:=bO z_w;have hKw1:Below w.heap.size w w1:=hCw1;clear hbw1 bb
  have p1:=own_below o1 hKw1
  have p2:=own_below o2 hKw1
  have k0:w.heap.size<w1.heap.size:=by omega
  have k1:w.heap.size+1<w1.heap.size:=by omega
  have k2:w.heap.size+1+1<w1.heap.size:=by omega
  have k3:w.heap.size+1+1+1<w1.heap.size:=by omega
  go_wp2
  exact ⟨rfl,_,_,rfl,by exact zB⟩
set_option maxRecDepth 100000 in
set_option maxHeartbeats 2000000 in
theorem parkTouch_25 (c:Ch) (h:Ha) (v1 v2:Value) (lo:Nat) (w:World) (h1:OCells w lo v1 c.cells) (h2:OInts w lo v2 c.words) (hc0:0≤h.cell) (hc1:h.cell<c.cells.length) (hc:chanOk c=true) (x:Int) (hx:wordOf c h.mine=x) (hp:¬ x<0) (hq:(h.pos == 25)=true) :
    Calls Tryz.prog 127 #[.agg (cvals c v1 v2),.agg (hvals h)] w fun r w'=>StepO w w' lo v1 v2 ((stateC c h.cell (goneS h),resting 3 0,true)) r:=by
  have OW:=Lib.hid fun W a b=>ownWord_yes c h v1 v2 lo W a b hc x hx hp
  clear hx hp hc
  obtain ⟨v,hv⟩:∃ v,goneS h=v:=⟨_,rfl⟩
  have GO:=Lib.hid fun W=>goneOf_any h.code h.elem W
  rw [show (if h.code == 1 then (9:Int) else 10)=v from hv] at GO
  rw [hv]
  clear hv
  obtain ⟨i,hci⟩:∃ i:Nat,h.cell=(i:Int):=⟨h.cell.toNat,by omega⟩
  have hi:i<c.cells.length:=by omega
  have hi0:(0:Int)≤(i:Int):=by omega
  have hi1:(i:Int)<(c.cells.length:Int):=by omega
  have hne:=h1.ne h2
  obtain ⟨a2,q2,rfl,_⟩:=h2.seg
  obtain ⟨g,q1,rfl,hlo1,hlt,hcell,hfr⟩:=h1.open1 hi
  have O1:=Lib.hid h1
  have O2:=Lib.hid h2
  have lg0:g<w.heap.size+1:=by omega
  have lg1:g<w.heap.size+1+1:=by omega
  have lg2:g<w.heap.size+1+1+1:=by omega
  have ng0:g≠w.heap.size:=by omega
  have ng1:g≠w.heap.size+1:=by omega
  have ng2:g≠w.heap.size+1+1:=by omega
  have ng3:g≠w.heap.size+1+1+1:=by omega
  have mg0:w.heap.size≠g:=by omega
  have mg1:w.heap.size+1≠g:=by omega
  have mg2:w.heap.size+1+1≠g:=by omega
  have mg3:w.heap.size+1+1+1≠g:=by omega
  have hx:Hid (cellAt c h.cell=c.cells.getD i ⟨0,0,0⟩):=by simp [cellAt,Hid,hci]
  have c0:=hcell 0 (by omega)
  have c1:=hcell 1 (by omega)
  have c2:=hcell 2 (by omega)
  simp only [C3.val,Nat.add_zero] at c0 c1 c2
  have hq3:(h.pos == 23)=false:=by simp at hq ⊢;omega
  have hq4:(h.pos == 24)=false:=by simp at hq ⊢;omega
  rw [show stateC c h.cell v=stateC c i v by rw [hci]]
  have e1:=stateC_cells c i v
  have P1:=fun W (o:OCells W lo (.slice (some ⟨g,0,none⟩) c.cells.length q1) c.cells)=>OCells.setS o hi v
  rw [← e1] at P1
  clear hx hcell h1 h2 e1
  generalize c.cells.getD i ⟨0,0,0⟩=x0 at *
  have o1:=O1.out
  have o2:=O2.out
  have HCI:=Lib.hid hci
  clear hci hc0 hc1
  go_enter Tryz.func127,Tryz.ntmps127
  go_wp2_with fail;refine bHit w (by exact zB) fun bb=>?_;refine (OW.out _ (by exact zO o1 o1) (by exact zO o2 o2)).mono ?_;rintro _ w1 ⟨rfl,hbw1⟩;have hCw1:Below w.heap.size w w1:=bT bb hbw1;have hsw1:=hbw1.size;(try simp at hsw1);have zz:=q4 hbw1 (b:=w.heap.size);(try simp [go_sem] at zz);(try clear z_wppp x_wppp f_wppp l_wppp);(try clear z_wpp x_wpp f_wpp l_wpp);(try clear z_wp x_wp f_wp l_wp);(try clear z_w x_w f_w l_w);obtain ⟨z_wppp,z_wpp,z_wp,z_w⟩:=zz;obtain ⟨x_wppp,f_wppp,l_wppp⟩:=bO z_wppp;obtain ⟨x_wpp,f_wpp,l_wpp⟩:=bO z_wpp;obtain ⟨x_wp,f_wp,l_wp⟩:=bO z_wp;obtain ⟨x_w,f_w,l_w⟩:=bO z_w;have hKw1:Below w.heap.size w w1:=hCw1;clear hbw1 bb
  have p1:=own_below o1 hKw1
  have p2:=own_below o2 hKw1
  have k0:w.heap.size<w1.heap.size:=by omega
  have k1:w.heap.size+1<w1.heap.size:=by omega
  have k2:w.heap.size+1+1<w1.heap.size:=by omega
  have k3:w.heap.size+1+1+1<w1.heap.size:=by omega
  go_upto_region 8 with fail
  refine wp_region_inv [[],[0],[],[2],[],[4],[4,5],[0,1,2,3],[0,1,2,3,7],[0,1,2,3,4,5,6,7,8]] [29,30,31,32,33,34,35,36,37] (fun l s wx=>(l 9=false→Below w1.heap.size w1 wx)∧(l 0=true→s 29=.pointer (some ⟨w.heap.size,4,none⟩))∧(l 1=true→s 30=.slice (some ⟨g,0,none⟩) c.cells.length q1)∧(l 2=true→s 31=.pointer (some ⟨w.heap.size+1,3,none⟩))∧(l 3=true→s 32=.int .i64 i)∧(l 4=true→s 33=.pointer (some ⟨w.heap.size+1,1,none⟩))∧(l 5=true→s 34=.agg #[.int .i64 h.code,.int .i64 h.elem])∧(l 6=true→s 35=.int .i64 v)∧(l 7=true→s 36=.pointer (some ⟨g,i*3,none⟩))∧(l 8=true→s 37=.pointer (some ⟨g,i*3,none⟩))∧(l 9=true→Gr g w1 wx∧OCells wx lo (.slice (some ⟨g,0,none⟩) c.cells.length q1) (stateC c i v).cells∧OInts wx lo (.slice a2 c.words.length q2) c.words)) (by kernel_rfl) (by kernel_rfl) (by kernel_rfl) (fun s=>by (simp only [fill,fillA,List.setIfInBounds_toArray,List.set_cons_zero,List.set_cons_succ];rfl)) (fun s=>⟨fun _=>(Below.refl _ _).drew,fun h=>absurd h Bool.false_ne_true,fun h=>absurd h Bool.false_ne_true,fun h=>absurd h Bool.false_ne_true,fun h=>absurd h Bool.false_ne_true,fun h=>absurd h Bool.false_ne_true,fun h=>absurd h Bool.false_ne_true,fun h=>absurd h Bool.false_ne_true,fun h=>absurd h Bool.false_ne_true,fun h=>absurd h Bool.false_ne_true,fun h=>absurd h Bool.false_ne_true⟩) ?_ ?_
  refine ⟨?_,?_,?_,?_,?_,?_,?_,?_,?_,?_,trivial⟩;rotate_left 10
  · intro l s w5 hall hf
    obtain ⟨hgw5,r1,r2⟩:=(hf.2.2.2.2.2.2.2.2.2.2 (hall 9 rfl))
    clear hf hall
    have sg0:some w.heap.size≠some g:=by simp;omega
    have sg1:some (w.heap.size+1)≠some g:=by simp;omega
    have sg2:some (w.heap.size+1+1)≠some g:=by simp;omega
    have sg3:some (w.heap.size+1+1+1)≠some g:=by simp;omega
    have hsw5:=hgw5.size;(try (simp at hsw5));have zz:=And.intro (grHp hgw5 (b:=w.heap.size+1+1+1) (by (try simp) <;> omega) (by assumption)) <| And.intro (grHp hgw5 (b:=w.heap.size+1+1) (by (try simp) <;> omega) (by assumption)) <| And.intro (grHp hgw5 (b:=w.heap.size+1) (by (try simp) <;> omega) (by assumption)) <| grHp hgw5 (b:=w.heap.size) (by (try simp) <;> omega) (by assumption);(first|simp [go_sem,z_wppp,z_wpp,z_wp,z_w,l_w,l_wp,l_wpp,l_wppp,k0,k1,k2,k3] at zz|simp [go_sem] at zz|skip);(try clear z_wppp x_wppp f_wppp l_wppp);(try clear z_wpp x_wpp f_wpp l_wpp);(try clear z_wp x_wp f_wp l_wp);(try clear z_w x_w f_w l_w);obtain ⟨z_wppp,z_wpp,z_wp,z_w⟩:=zz;obtain ⟨x_wppp,f_wppp,l_wppp⟩:=bO z_wppp;obtain ⟨x_wpp,f_wpp,l_wpp⟩:=bO z_wpp;obtain ⟨x_wp,f_wp,l_wp⟩:=bO z_wp;obtain ⟨x_w,f_w,l_w⟩:=bO z_w
    have hG5:Gr g w w5:=gT (gOfB hCw1) hgw5
    clear hgw5
    go_wp2_with fail
    go_region_held3 (fun w'=>hp w' w.heap.size=some (.cells (cvals c (.slice (some ⟨g,0,none⟩) c.cells.length q1) (.slice a2 c.words.length q2)) 34)∧hp w' (w.heap.size+1)=some (.cells (hvals h) 38))
      (first|(simp [*,go_sem]))
      (first|(go_at_call 99;refine (resting_any _ _ _).mono ?_;rintro _ w6 ⟨rfl,hbw6⟩;have hGw6:Gr g w w6:=gT (by (repeat (first|with_reducible assumption|with_reducible exact gR _ _|with_reducible refine gA ?_|with_reducible refine gD ?_|with_reducible refine gS ?_ (.inl rfl)|((with_reducible refine gBx ?_ (.inr ?_));rotate_left;(focus ((try dsimp only);(try simp);(try omega))))|((with_reducible refine gS ?_ (.inr ?_));rotate_left;(focus ((try dsimp only);(try simp);(try omega))))))) (gOfB hbw6);have hsw6:=hbw6.size;(try (simp at hsw6));have zz:=hQ hbw6 (b:=w.heap.size);(first|(simp [go_sem,z_w,l_w] at zz)|(simp [go_sem] at zz));(try clear x_w f_w);(try clear z_w);have z_w:=zz;clear zz;(try clear l_w);obtain ⟨x_w,f_w,l_w⟩:=bO z_w;have zz:=hQ hbw6 (b:=w.heap.size+1);(first|(simp [go_sem,z_wp,l_wp] at zz)|(simp [go_sem] at zz));(try clear x_wp f_wp);(try clear z_wp);have z_wp:=zz;clear zz;(try clear l_wp);obtain ⟨x_wp,f_wp,l_wp⟩:=bO z_wp;have zz:=hQ hbw6 (b:=w.heap.size+1+1);(first|(simp [go_sem,z_wpp,l_wpp] at zz)|(simp [go_sem] at zz));(try clear x_wpp f_wpp);(try clear z_wpp);have z_wpp:=zz;clear zz;(try clear l_wpp);obtain ⟨x_wpp,f_wpp,l_wpp⟩:=bO z_wpp;have zz:=hQ hbw6 (b:=w.heap.size+1+1+1);(first|(simp [go_sem,z_wppp,l_wppp] at zz)|(simp [go_sem] at zz));(try clear x_wppp f_wppp);(try clear z_wppp);have z_wppp:=zz;clear zz;(try clear l_wppp);obtain ⟨x_wppp,f_wppp,l_wppp⟩:=bO z_wppp;have p1:OCells w6 lo (.slice (some ⟨g,0,none⟩) c.cells.length q1) (stateC c i v).cells:=own_below (by exact zO r1 o1) hbw6;have p2:OInts w6 lo (.slice a2 c.words.length q2) c.words:=own_below (by exact zO r2 o2) hbw6))
    go_wp2
    refine bodyPost_ret (res_cct Tryz.results127 rfl (ldChan (stateC c i v) (.slice (some ⟨g,0,none⟩) c.cells.length q1) (.slice a2 c.words.length q2) (by simp [go_sem, *] <;> rfl)) rfl (ldHand (resting 3 0) (by simp [go_sem, *] <;> rfl))) rfl ⟨⟨_,_,rfl,?_,?_,fresh_refl _ _,fresh_refl _ _⟩,onl1 (show w.grownBy _ (some g) from (by (repeat (first|with_reducible assumption|with_reducible exact gR _ _|with_reducible refine gA ?_|with_reducible refine gD ?_|with_reducible refine gS ?_ (.inl rfl)|((with_reducible refine gBx ?_ (.inr ?_));rotate_left;(focus ((try dsimp only);(try simp);(try omega))))|((with_reducible refine gS ?_ (.inr ?_));rotate_left;(focus ((try dsimp only);(try simp);(try omega))))))))⟩
    · show OCells _ lo (.slice (some ⟨g,0,none⟩) c.cells.length q1) (stateC c i v).cells
      exact zO p1 o1
    · show OInts _ lo (.slice a2 c.words.length q2) c.words
      exact zO p2 o2
  · intro l s wx hl hd hn hf0 K hK
    have hf:=Lib.hid hf0
    clear hf0
    have hB:=hf.out.1 (hn 9 rfl)
    go_simp
    refine hK.out (upd s 29 (.pointer (some ⟨w.heap.size,4,none⟩))) _ _ (by simp [upd_at] <;> rfl) ⟨hf.out.1,fun _=>rfl,nU (hn 1 rfl),hf.out.2.2.2.1,hf.out.2.2.2.2.1,hf.out.2.2.2.2.2.1,hf.out.2.2.2.2.2.2.1,hf.out.2.2.2.2.2.2.2.1,nU (hn 7 rfl),nU (hn 8 rfl),nU (hn 9 rfl)⟩
  · intro l s wx hl hd hn hf0 K hK
    have hf:=Lib.hid hf0
    clear hf0
    have e0:=(hf.out.2.1 (hd 0 rfl))
    have hB:=hf.out.1 (hn 9 rfl)
    have zc:=hpS z_w hB
    have zh:=hpS z_wp hB
    have q:=(bO zc).1 4
    go_simp
    refine hK.out (upd s 30 (.slice (some ⟨g,0,none⟩) c.cells.length q1)) _ _ (by simp [upd_at,e0] <;> rfl) ⟨hf.out.1,hf.out.2.1,fun _=>rfl,hf.out.2.2.2.1,hf.out.2.2.2.2.1,hf.out.2.2.2.2.2.1,hf.out.2.2.2.2.2.2.1,hf.out.2.2.2.2.2.2.2.1,nU (hn 7 rfl),nU (hn 8 rfl),nU (hn 9 rfl)⟩
  · intro l s wx hl hd hn hf0 K hK
    have hf:=Lib.hid hf0
    clear hf0
    have hB:=hf.out.1 (hn 9 rfl)
    go_simp
    refine hK.out (upd s 31 (.pointer (some ⟨w.heap.size+1,3,none⟩))) _ _ (by simp [upd_at] <;> rfl) ⟨hf.out.1,hf.out.2.1,hf.out.2.2.1,fun _=>rfl,nU (hn 3 rfl),hf.out.2.2.2.2.2.1,hf.out.2.2.2.2.2.2.1,hf.out.2.2.2.2.2.2.2.1,nU (hn 7 rfl),nU (hn 8 rfl),nU (hn 9 rfl)⟩
  · intro l s wx hl hd hn hf0 K hK
    have hf:=Lib.hid hf0
    clear hf0
    have e2:=(hf.out.2.2.2.1 (hd 2 rfl))
    have hB:=hf.out.1 (hn 9 rfl)
    have zc:=hpS z_w hB
    have zh:=hpS z_wp hB
    have q:wx.cell? ⟨w.heap.size+1,3,none⟩=some (.int .i64 i):=by rw [← HCI.out];exact (bO zh).1 3
    go_simp
    refine hK.out (upd s 32 (.int .i64 i)) _ _ (by simp [upd_at,e2] <;> rfl) ⟨hf.out.1,hf.out.2.1,hf.out.2.2.1,hf.out.2.2.2.1,fun _=>rfl,hf.out.2.2.2.2.2.1,hf.out.2.2.2.2.2.2.1,hf.out.2.2.2.2.2.2.2.1,nU (hn 7 rfl),nU (hn 8 rfl),nU (hn 9 rfl)⟩
  · intro l s wx hl hd hn hf0 K hK
    have hf:=Lib.hid hf0
    clear hf0
    have hB:=hf.out.1 (hn 9 rfl)
    go_simp
    refine hK.out (upd s 33 (.pointer (some ⟨w.heap.size+1,1,none⟩))) _ _ (by simp [upd_at] <;> rfl) ⟨hf.out.1,hf.out.2.1,hf.out.2.2.1,hf.out.2.2.2.1,hf.out.2.2.2.2.1,fun _=>rfl,nU (hn 5 rfl),nU (hn 6 rfl),hf.out.2.2.2.2.2.2.2.2.1,hf.out.2.2.2.2.2.2.2.2.2.1,nU (hn 9 rfl)⟩
  · intro l s wx hl hd hn hf0 K hK
    have hf:=Lib.hid hf0
    clear hf0
    have e4:=(hf.out.2.2.2.2.2.1 (hd 4 rfl))
    have hB:=hf.out.1 (hn 9 rfl)
    have zc:=hpS z_w hB
    have zh:=hpS z_wp hB
    have qa:=(bO zh).1 1
    have qb:=(bO zh).1 2
    go_simp
    refine hK.out (upd s 34 (.agg #[.int .i64 h.code,.int .i64 h.elem])) _ _ (by simp [upd_at,e4] <;> rfl) ⟨hf.out.1,hf.out.2.1,hf.out.2.2.1,hf.out.2.2.2.1,hf.out.2.2.2.2.1,hf.out.2.2.2.2.2.1,fun _=>rfl,nU (hn 6 rfl),hf.out.2.2.2.2.2.2.2.2.1,hf.out.2.2.2.2.2.2.2.2.2.1,nU (hn 9 rfl)⟩
  · intro l s wx hl hd hn hf0 K hK
    have hf:=Lib.hid hf0
    clear hf0
    have e5:=(hf.out.2.2.2.2.2.2.1 (hd 5 rfl))
    have hB:=hf.out.1 (hn 9 rfl)
    go_simp
    go_at_call 131
    refine (GO.out _).mono ?_
    rintro _ wy ⟨rfl,hE⟩
    refine hK.out (upd s 35 (.int .i64 v)) _ _ (by simp [upd_at,e5] <;> rfl) ⟨fun h9=>bT (hf.out.1 h9) hE,hf.out.2.1,hf.out.2.2.1,hf.out.2.2.2.1,hf.out.2.2.2.2.1,hf.out.2.2.2.2.2.1,hf.out.2.2.2.2.2.2.1,fun _=>rfl,hf.out.2.2.2.2.2.2.2.2.1,hf.out.2.2.2.2.2.2.2.2.2.1,nU (hn 9 rfl)⟩
  · intro l s wx hl hd hn hf0 K hK
    have hf:=Lib.hid hf0
    clear hf0
    have e1:=(hf.out.2.2.1 (hd 1 rfl))
    have e3:=(hf.out.2.2.2.2.1 (hd 3 rfl))
    have hB:=hf.out.1 (hn 9 rfl)
    go_simp
    refine hK.out (upd s 36 (.pointer (some ⟨g,i*3,none⟩))) _ _ (by simp [upd_at,e1,e3] <;> rfl) ⟨hf.out.1,hf.out.2.1,hf.out.2.2.1,hf.out.2.2.2.1,hf.out.2.2.2.2.1,hf.out.2.2.2.2.2.1,hf.out.2.2.2.2.2.2.1,hf.out.2.2.2.2.2.2.2.1,fun _=>rfl,nU (hn 8 rfl),nU (hn 9 rfl)⟩
  · intro l s wx hl hd hn hf0 K hK
    have hf:=Lib.hid hf0
    clear hf0
    have e7:=(hf.out.2.2.2.2.2.2.2.2.1 (hd 7 rfl))
    have hB:=hf.out.1 (hn 9 rfl)
    go_simp
    refine hK.out (upd s 37 (.pointer (some ⟨g,i*3,none⟩))) _ _ (by simp [upd_at,e7] <;> rfl) ⟨hf.out.1,hf.out.2.1,hf.out.2.2.1,hf.out.2.2.2.1,hf.out.2.2.2.2.1,hf.out.2.2.2.2.2.1,hf.out.2.2.2.2.2.2.1,hf.out.2.2.2.2.2.2.2.1,hf.out.2.2.2.2.2.2.2.2.1,fun _=>rfl,nU (hn 9 rfl)⟩
  · intro l s wx hl hd hn hf0 K hK
    have hf:=Lib.hid hf0
    clear hf0
    have e8:=(hf.out.2.2.2.2.2.2.2.2.2.1 (hd 8 rfl))
    have e6:=(hf.out.2.2.2.2.2.2.2.1 (hd 6 rfl))
    have hB:=hf.out.1 hl
    have y0:=((bT hCw1 hB).cell (p:=⟨g,i*3,none⟩) hlt).trans c0
    have yf:=fun o=>((bT hCw1 hB).frozen (p:=⟨g,o,none⟩) hlt).trans (hfr o)
    go_simp
    refine hK.out (s) _ _ (by simp [upd_at,e8,e6] <;> rfl) ⟨fun h9=>absurd h9 (by rw [show upd l 9 true 9=true from rfl];decide),hf.out.2.1,hf.out.2.2.1,hf.out.2.2.2.1,hf.out.2.2.2.2.1,hf.out.2.2.2.2.2.1,hf.out.2.2.2.2.2.2.1,hf.out.2.2.2.2.2.2.2.1,hf.out.2.2.2.2.2.2.2.2.1,hf.out.2.2.2.2.2.2.2.2.2.1,fun _=>⟨gS (gOfB hB) (.inl rfl),P1 _ (own_below p1 hB),own_store (own_below p2 hB) (hne g rfl) _⟩⟩
theorem wordOf_neg {c:Ch} {v:Int} (hw:hasW c v=false):wordOf c v=-1:=by simp [wordOf,hw]
theorem word_neg {c:Ch} {v:Int} (hc:chanOk c=true) (hw:hasW c v=true):¬ wordOf c v<0∧wordOf c v=wordAt c v:=by
  have e0:wordOf c v=wordAt c v:=by simp [wordOf,hc,hw]
  refine ⟨?_,e0⟩
  rw [e0]
  simp only [chanOk,Bool.and_eq_true] at hc
  have ha:=List.all_eq_true.1 hc.2.2
  obtain ⟨h1,h2⟩:=hasW_iff.1 hw
  have hi:(v - 1).toNat<c.words.length:=by omega
  have:=inB_iff.1 (ha _ (List.getElem_mem hi))
  have e:wordAt c v=c.words[(v - 1).toNat]:=by unfold wordAt;rw [List.getD_eq_getElem?_getD,List.getElem?_eq_getElem hi];rfl
  rw [e]
  omega
theorem fin7_done {c:Ch} {h:Ha}:fin7 (c,h,true)=done c h:=rfl
theorem hand_codes {h:Ha} (hh:handOk h=true) (hp:23≤h.pos):h.code=1∨h.code=2:=by
  simp only [handOk,handA,Bool.and_eq_true,inB_iff] at hh
  have h0:¬ h.pos=0:=by omega
  simp [h0] at hh
  have:=hh.1.2
  simp [callOk] at this
  omega
theorem parkTouch_any (c:Ch) (h:Ha) (hc:chanOk c=true) (hh:handOk h=true) :
    (∃ x:St,parkStep c h=fin7 x∧∀ (v1 v2:Value) (lo:Nat) (W:World),OCells W lo v1 c.cells→OInts W lo v2 c.words→lo≤W.heap.size→Calls Tryz.prog 127 #[.agg (cvals c v1 v2),.agg (hvals h)] W fun r w'=>StepO W w' lo v1 v2 x r) ∨
    (parkStep c h=nothing∧∀ (v1 v2:Value) (lo:Nat) (W:World),OCells W lo v1 c.cells→OInts W lo v2 c.words→lo≤W.heap.size→Calls Tryz.prog 127 #[.agg (cvals c v1 v2),.agg (hvals h)] W fun e W'=>∃ T s,e=.panicked [{ v:=.iface T s,recovered:=false }]∧Below W.heap.size W W'):=by
  cases hw:hasW c h.mine with
  | false=>exact .inr ⟨by simp [parkStep,hw],fun v1 v2 lo W o1 o2 _=>parkTouch_n c h v1 v2 lo W o1 o2 hc (wordOf_neg hw)⟩
  | true =>
    obtain ⟨hx0,hx1⟩:=word_neg hc hw
    obtain ⟨hc0,hc9⟩:=hand_cell hh
    have hc1:h.cell<c.cells.length:=by have:=(chan_len hc).1;omega
    cases hq:(h.pos == 23) with
    | true =>
      have hp:h.pos=23:=by simpa using hq
      refine .inl ⟨(c,heardH h (wordOf c h.mine),wordOf c h.mine != 0),?_,fun v1 v2 lo W o1 o2 _=>parkTouch_23 c h v1 v2 lo W o1 o2 hc _ rfl hx0 hq⟩
      have hok:stepOk c h 23 25 0=true:=by simp [stepOk,hc,hh,hp,inB]
      rw [hx1]
      by_cases h0:wordAt c h.mine=0
      · simp [parkStep,hok,hw,hp,park9,h0,heardH,fin7,hc,hh]
      · have h0':(wordAt c h.mine != 0)=true:=by simpa using h0
        rw [h0',fin7_done]
        simp only [parkStep,hok,hw,hp,park9,heardH]
        simp [h0]
        by_cases h2:wordAt c h.mine=2
        · simp [h2]
        · by_cases hk:h.code=1 <;> simp [h2,hk]
    | false =>
      have hp3:¬ h.pos=23:=by simpa using hq
      cases hq4:(h.pos == 24) with
      | true =>
        have hp:h.pos=24:=by simpa using hq4
        have hok:stepOk c h 23 25 0=true:=by simp [stepOk,hc,hh,hp,inB]
        cases hk:(h.code != 2) with
        | true =>
          refine .inr ⟨?_,fun v1 v2 lo W o1 o2 _=>parkTouch_24n c h v1 v2 lo W o1 o2 hc _ rfl hx0 hq4 hk⟩
          have hk2:¬ h.code=2:=by simpa using hk
          have hk1:h.code=1:=by have:=hand_codes hh (by omega);omega
          simp [parkStep,hok,hw,hp,hk1]
        | false =>
          refine .inl ⟨(c,resting 2 (cellAt c h.cell).e,true),?_,fun v1 v2 lo W o1 o2 _=>parkTouch_24 c h v1 v2 lo W o1 o2 hc0 hc1 hc _ rfl hx0 hq4 hk⟩
          have hk2:h.code=2:=by simpa using hk
          rw [fin7_done]
          simp [parkStep,hok,hw,hp,hk2]
      | false =>
        have hp4:¬ h.pos=24:=by simpa using hq4
        cases hq5:(h.pos == 25) with
        | true =>
          have hp:h.pos=25:=by simpa using hq5
          have hok:stepOk c h 23 25 0=true:=by simp [stepOk,hc,hh,hp,inB]
          refine .inl ⟨(stateC c h.cell (goneS h),resting 3 0,true),?_,fun v1 v2 lo W o1 o2 _=>parkTouch_25 c h v1 v2 lo W o1 o2 hc0 hc1 hc _ rfl hx0 hq5⟩
          rw [fin7_done]
          simp [parkStep,hok,hw,hp]
        | false =>
          have hp5:¬ h.pos=25:=by simpa using hq5
          refine .inr ⟨?_,fun v1 v2 lo W o1 o2 _=>parkTouch_o c h v1 v2 lo W o1 o2 hc _ rfl hx0 hq hq4 hq5⟩
          have hno:stepOk c h 23 25 0=false:=by
            have:inB h.pos 23 25=false:=by simp [inB];omega
            simp [stepOk,this]
          simp [parkStep,hno]
end Go.Proofs.YthfbnjfppjmgfaaGreat
set_option linter.unusedSimpArgs false
set_option linter.unusedVariables false
namespace Go.Proofs.YthfbnjfppjmgfaaGreat
open Go.RowKit
set_option linter.unusedSimpArgs false
attribute [local simp] bx_size
attribute [local go_sem ↓] zeroHand zeroChan toLHand toLChan toVHand toVChan storeHand storeChan storeHandC storeChanC
theorem refusedE (w:World):Calls Tryz.prog 82 #[] w fun r w'=>r=.returned (.tuple #[.agg (cvals Ch.zero (.slice none 0 0) (.slice none 0 0)),.agg (hvals Ha.zero),.bool false])∧Below w.heap.size w w':=by
  go_enter Tryz.func82,Tryz.ntmps82
  go_wp2
  refine bodyPost_ret (res_cct Tryz.results82 rfl (ldChan Ch.zero (.slice none 0 0) (.slice none 0 0) (by simp [go_sem])) rfl (ldHand Ha.zero (by simp [go_sem]))) rfl ⟨rfl,by exact zB⟩
theorem res_ccc {P:Program} {fn:Func} {tmps:Array Value} {w:World} {p q u:Nat} {T S U:TypeId} {a a' a2:Addr} {x y z:Value} (h:fn.results=#[.cell p T,.cell q S,.cell u U]) (hp:tmps.getD p undef=.pointer (some a)) (hl:(loadVar T a).run P w=.ok x w) (hp':tmps.getD q undef=.pointer (some a')) (hl':(loadVar S a').run P w=.ok y w) (hp2:tmps.getD u undef=.pointer (some a2)) (hl2:(loadVar U a2).run P w=.ok z w):(results fn tmps).run P w=.ok (.tuple #[x,y,z]) w:=by
  simp only [results,h]
  simp [Sem.run_bind,Result.andThen,asAddr] at *
  simp [hp,hl,hp',hl',hp2,hl2]
theorem ldBool {w:World} {b:Nat} {v:Bool} (h:hp w b=some (.cells #[.bool v] 4)):(loadVar 4 ⟨b,0,none⟩).run Tryz.prog w=.ok (.bool v) w:=by
  have c:=(bO h).1 0
  simp at c
  simp [go_sem,c]
theorem belowTr {lo:Nat} {w W W':World} (h:Below lo w W) (k:Below lo W W'):Below lo w W':=⟨k.os.trans h.os,k.tape.trans h.tape,k.output.trans h.output,Nat.le_trans h.size k.size,fun i hi=>(k.block i hi).trans (h.block i hi)⟩
theorem own_setC {w:World} {lo b i k m:Nat} {e T':TypeId} {u v:Value} {xs:List Value} {y:Array Value} (h:w.ownsRow lo e k u m xs) (hz:hp w b=some (.cells y T')) (hne:e≠T'):(w.setCell ⟨b,i,none⟩ v).ownsRow lo e k u m xs:=h.kept (gS (gR _ _) (.inl rfl)) (.inr fun e2=>own_offs h hz hne b e2 rfl)
theorem belowSet {lo b i:Nat} {w W:World} {v:Value} (h:Below lo w W) (hb:lo≤b):Below lo w (W.setCell ⟨b,i,none⟩ v):=⟨h.os,h.tape,h.output,by simpa [World.setCell] using h.size,fun k hk=>(Below.heap_setCell _ _ _ k (by simp;omega)).trans (h.block k hk)⟩
set_option maxRecDepth 100000 in
set_option maxHeartbeats 2000000 in
/-- The closure where the body has panicked: what was laid is the refusal. -/
theorem catch_yes (b4 b5 b6:Nat) (T:TypeId) (s:Value) (older:List PanicEntry) (w:World) (x4:Array Value) (x5:Array Value) (x6:Value) (z4:hp w b4=some (.cells x4 34)) (s4:x4.size=6) (z5:hp w b5=some (.cells x5 38)) (s5:x5.size=14) (z6:hp w b6=some (.cells #[x6] 4)) :
    CallsD Tryz.prog 126 #[.pointer (some ⟨b4,0,none⟩),.pointer (some ⟨b5,0,none⟩),.pointer (some ⟨b6,0,none⟩)] (.panicking ({ v:=.iface T s,recovered:=false } :: older)) w fun e u' w' =>
      e=.returned (.tuple #[])∧u'=.panicking ({ v:=.iface T s,recovered:=true } :: older)∧hp w' b4=some (.cells (cvals Ch.zero (.slice none 0 0) (.slice none 0 0)) 34)∧hp w' b5=some (.cells (hvals Ha.zero) 38)∧hp w' b6=some (.cells #[.bool false] 4)∧(∀ lo,lo≤b4→lo≤b5→lo≤b6→lo≤w.heap.size→Below lo w w'):=by
  refine callsD_of_wpS Tryz.func126 rfl fun c₀ cs hu=>?_
  apply wpS_seq
  apply wpS_region
  simp [wpOpsS,go_sem,recoverD,hu,Tryz.ntmps126,Exit.thenS]
  refine wpS_cond (t:=true) (by simp [Act.eval,Array.replicate]) ?_
  simp only [if_true]
  refine wpS_of_wp ?_
  simp only [Array.replicate_succ,Array.replicate_zero,List.push_toArray,List.append_toArray,List.nil_append,List.cons_append,List.setIfInBounds_toArray,List.set_cons_zero,List.set_cons_succ]
  have n45:b4≠b5:=by rintro rfl;rw [z4] at z5;simp at z5
  have n46:b4≠b6:=by rintro rfl;rw [z4] at z6;simp at z6
  have n56:b5≠b6:=by rintro rfl;rw [z5] at z6;simp at z6
  go_wp2_with (go_at_call 82;refine (refusedE _).mono ?_;rintro _ w1 ⟨rfl,hE⟩;have z4':=hpS z4 hE;have z5':=hpS z5 hE;have z6':=hpS z6 hE;have k4:okO 6 (hp w1 b4)=true:=(by rw [z4'];simp [okO,s4]);have q5:=hp_far (ys:=cvals Ch.zero (.slice none 0 0) (.slice none 0 0)) z4' z5' (by decide);have k5:okO 14 (hp (setBox w1 b4 (cvals Ch.zero (.slice none 0 0) (.slice none 0 0))) b5)=true:=(by rw [q5];simp [okO,s5]);have q6:=hp_far (ys:=cvals Ch.zero (.slice none 0 0) (.slice none 0 0)) z4' z6' (by decide);have r6:=hp_far (ys:=hvals Ha.zero) q5 q6 (by decide);have r4:=hp_far (ys:=hvals Ha.zero) q5 (hp_set (ys:=cvals Ch.zero (.slice none 0 0) (.slice none 0 0)) z4') (by decide);have r5:=hp_set (ys:=hvals Ha.zero) q5;obtain ⟨c6,f6,l6⟩:=bO r6)
  refine ⟨rfl,_,rfl,_,results_none rfl _ _ _,rfl,rfl,(Below.heap_setCell _ _ _ b4 n46).trans r4,(Below.heap_setCell _ _ _ b5 n56).trans r5,by rw [hp_set_at,r6];rfl,fun lo l4 l5 l6 l=>belowSet (bBx (bBx (show Below lo w w1 from ⟨hE.os,hE.tape,hE.output,hE.size,fun k hk=>hE.block k (Nat.lt_of_lt_of_le hk l)⟩) l4) l5) l6⟩
set_option maxRecDepth 100000 in
/-- The closure where the body has answered: nothing. -/
theorem catch_idle (b4 b5 b6:Nat) (w:World) :
    CallsD Tryz.prog 126 #[.pointer (some ⟨b4,0,none⟩),.pointer (some ⟨b5,0,none⟩),.pointer (some ⟨b6,0,none⟩)] .returning w fun e u' w'=>e=.returned (.tuple #[])∧u'=.returning∧w'=w:=by
  refine callsD_of_wpS Tryz.func126 rfl fun c₀ cs hu=>?_
  apply wpS_seq
  apply wpS_region
  simp [wpOpsS,go_sem,recoverD,hu,Tryz.ntmps126,Exit.thenS]
  refine wpS_cond (t:=false) (by simp [Act.eval,Array.replicate]) ?_
  simp only [Bool.false_eq_true,if_false]
  refine wpS_of_wp (wp_skip ?_)
  cases c₀
  simp_all [bodyPostS,results,Tryz.results126]
set_option maxRecDepth 100000 in
set_option maxHeartbeats 4000000 in
/-- The face where what is within panics: it is refused. -/
theorem pface_no (c:Ch) (h:Ha) (a b:Option Addr) (p q:Nat) (w:World) (h1:Seg w w.heap.size a c.cells.length 3 (cellF c.cells)) (z1:a=none→p=0) (h2:Seg w w.heap.size b c.words.length 1 (intF c.words)) (z2:b=none→q=0)
    (HB:∀ (W:World),Seg W W.heap.size a c.cells.length 3 (cellF c.cells)→(a=none→p=0)→Seg W W.heap.size b c.words.length 1 (intF c.words)→(b=none→q=0)→Calls Tryz.prog 78 #[.func (.func 127) #[] #[],.agg (cvals c (.slice a c.cells.length p) (.slice b c.words.length q)),.agg (hvals h)] W fun e W'=>∃ T s,e=.panicked [{ v:=.iface T s,recovered:=false }]∧Below W.heap.size W W') :
    Calls Tryz.prog 125 #[.agg (cvals c (.slice a c.cells.length p) (.slice b c.words.length q)),.agg (hvals h)] w fun r w'=>StepN w w' nothing r:=by
  have hmf:∀ (fn:Fn) (first cap:Array Value) (w:World),(Instr.makeFunc fn first cap).run Tryz.prog w=.ok (.func fn first cap) w:=fun _ _ _ _=>rfl
  have H1:=Lib.hid h1
  have H2:=Lib.hid h2
  have Z1:=Lib.hid z1
  have Z2:=Lib.hid z2
  have HH:=Lib.hid HB
  clear h1 h2 z1 z2 HB
  go_enter_defers Tryz.func125,Tryz.ntmps125
  go_wp2_with fail
  refine bHit w (by exact zB) fun bb=>?_
  refine (HH.out _ ((H1.out.below bb).more bb.size) Z1.out ((H2.out.below bb).more bb.size) Z2.out).mono ?_
  rintro _ w1 ⟨T,s,rfl,hE⟩
  have hB1:Below w.heap.size w w1:=bT bb hE
  have hs1:=hE.size
  simp at hs1
  have z4:hp w1 (w.heap.size+1+1)=some (.cells (cvals Ch.zero (.slice none 0 0) (.slice none 0 0)) 34):=by rw [hpB hE (by simp)];simp [go_sem]
  have z5:hp w1 (w.heap.size+1+1+1)=some (.cells (hvals Ha.zero) 38):=by rw [hpB hE (by simp)];simp [go_sem]
  have z6:hp w1 (w.heap.size+1+1+1+1)=some (.cells #[.bool false] 4):=by rw [hpB hE (by simp)];simp [go_sem]
  clear hE bb
  go_wp2
  refine leaves_cons (f:=126) (args:=#[.pointer (some ⟨w.heap.size+1+1,0,none⟩),.pointer (some ⟨w.heap.size+1+1+1,0,none⟩),.pointer (some ⟨w.heap.size+1+1+1+1,0,none⟩)]) (by simp) (by simp [go_sem]) ?_
  refine (catch_yes _ _ _ T s [] _ _ _ _ z4 rfl z5 rfl z6).mono ?_
  rintro e u' w2 ⟨rfl,rfl,y4,y5,y6,hlo⟩
  have hB2:Below w.heap.size w w2:=belowTr hB1 (hlo w.heap.size (by omega) (by omega) (by omega) (by omega))
  exact ⟨_,res_ccc Tryz.results125 rfl (ldChan Ch.zero (.slice none 0 0) (.slice none 0 0) y4) rfl (ldHand Ha.zero y5) rfl (ldBool y6),stepR_none _ _ _ _ _,hB2⟩
set_option maxRecDepth 100000 in
set_option maxHeartbeats 4000000 in
/-- The face where what is within answers: it is answered so. -/
theorem pface_yes (x:St) (c:Ch) (h:Ha) (a b:Option Addr) (p q:Nat) (w:World) (h1:Seg w w.heap.size a c.cells.length 3 (cellF c.cells)) (z1:a=none→p=0) (h2:Seg w w.heap.size b c.words.length 1 (intF c.words)) (z2:b=none→q=0)
    (HB:∀ (W:World),Seg W W.heap.size a c.cells.length 3 (cellF c.cells)→(a=none→p=0)→Seg W W.heap.size b c.words.length 1 (intF c.words)→(b=none→q=0)→Calls Tryz.prog 78 #[.func (.func 127) #[] #[],.agg (cvals c (.slice a c.cells.length p) (.slice b c.words.length q)),.agg (hvals h)] W fun e W'=>StepN W W' x e) :
    Calls Tryz.prog 125 #[.agg (cvals c (.slice a c.cells.length p) (.slice b c.words.length q)),.agg (hvals h)] w fun r w'=>StepN w w' x r:=by
  have hmf:∀ (fn:Fn) (first cap:Array Value) (w:World),(Instr.makeFunc fn first cap).run Tryz.prog w=.ok (.func fn first cap) w:=fun _ _ _ _=>rfl
  have H1:=Lib.hid h1
  have H2:=Lib.hid h2
  have Z1:=Lib.hid z1
  have Z2:=Lib.hid z2
  have HH:=Lib.hid HB
  clear h1 h2 z1 z2 HB
  go_enter_defers Tryz.func125,Tryz.ntmps125
  go_wp2_with fail
  generalize hW0:World.alloc _ _=W0
  have hB0:Below w.heap.size w W0:=by rw [← hW0];exact zB
  have hs0:W0.heap.size=w.heap.size+1+1+1+1+1:=by rw [← hW0];simp
  have z4:hp W0 (w.heap.size+1+1)=some (.cells (cvals Ch.zero (.slice none 0 0) (.slice none 0 0)) 34):=by rw [← hW0];simp [go_sem]
  have z5:hp W0 (w.heap.size+1+1+1)=some (.cells (hvals Ha.zero) 38):=by rw [← hW0];simp [go_sem]
  have z6:hp W0 (w.heap.size+1+1+1+1)=some (.cells #[.bool false] 4):=by rw [← hW0];simp [go_sem]
  clear hW0
  refine (HH.out W0 ((H1.out.below hB0).more hB0.size) Z1.out ((H2.out.below hB0).more hB0.size) Z2.out).mono ?_
  rintro _ w1 ⟨⟨y1,y2,rfl,Y1,Y2,F1,F2⟩,hE⟩
  replace z4:=hpS z4 hE
  replace z5:=hpS z5 hE
  replace z6:=hpS z6 hE
  have hB1:Below w.heap.size w w1:=bT hB0 hE
  have hs1:=hE.size
  replace Y1:OCells w1 w.heap.size y1 x.1.cells:=own_lo Y1 (by omega)
  replace Y2:OInts w1 w.heap.size y2 x.1.words:=own_lo Y2 (by omega)
  clear hE
  obtain ⟨xa,xp,ea,_⟩:=Y1.seg
  obtain ⟨xb,xq,eb,_⟩:=Y2.seg
  subst ea eb
  have k4:okO 6 (hp w1 (w.heap.size+1+1))=true:=by rw [z4];rfl
  have q5:=hp_far (ys:=cvals x.1 (.slice xa x.1.cells.length xp) (.slice xb x.1.words.length xq)) z4 z5 (by decide)
  have k5:okO 14 (hp (setBox w1 (w.heap.size+1+1) (cvals x.1 (.slice xa x.1.cells.length xp) (.slice xb x.1.words.length xq))) (w.heap.size+1+1+1))=true:=by rw [q5];rfl
  have q6:=hp_far (ys:=cvals x.1 (.slice xa x.1.cells.length xp) (.slice xb x.1.words.length xq)) z4 z6 (by decide)
  have r4:=hp_far (ys:=hvals x.2.1) q5 (hp_set (ys:=cvals x.1 (.slice xa x.1.cells.length xp) (.slice xb x.1.words.length xq)) z4) (by decide)
  have r5:=hp_set (ys:=hvals x.2.1) q5
  have r6:=hp_far (ys:=hvals x.2.1) q5 q6 (by decide)
  obtain ⟨c6,f6,l6⟩:=bO r6
  go_wp2
  refine leaves_cons (f:=126) (args:=#[.pointer (some ⟨w.heap.size+1+1,0,none⟩),.pointer (some ⟨w.heap.size+1+1+1,0,none⟩),.pointer (some ⟨w.heap.size+1+1+1+1,0,none⟩)]) (by simp) (by simp [go_sem]) ?_
  refine (catch_idle _ _ _ _).mono ?_
  rintro e u' w2 ⟨rfl,rfl,rfl⟩
  exact ⟨_,res_ccc Tryz.results125 rfl (ldChan x.1 _ _ ((Below.heap_setCell _ _ _ _ (by simp)).trans r4)) rfl (ldHand x.2.1 ((Below.heap_setCell _ _ _ _ (by simp)).trans r5)) rfl (ldBool (by rw [hp_set_at,r6];rfl)),⟨_,_,rfl,own_setC (own_far (own_far Y1 z4 (by decide)) q5 (by decide)) r6 (by decide),own_setC (own_far (own_far Y2 z4 (by decide)) q5 (by decide)) r6 (by decide),fun j e=>.inr (Y1.lt j e).1,fun j e=>.inr (Y2.lt j e).1⟩,by exact zB⟩
set_option maxRecDepth 100000 in
set_option maxHeartbeats 8000000 in
/-- Where the touch gives up, so does the asking around it. -/
theorem touched_pan (F:Nat) (c:Ch) (h:Ha) (a b:Option Addr) (p q:Nat) (w:World) (h1:Seg w w.heap.size a c.cells.length 3 (cellF c.cells)) (z1:a=none→p=0) (h2:Seg w w.heap.size b c.words.length 1 (intF c.words)) (z2:b=none→q=0) (hc:chanOk c=true) (hh:handOk h=true) (eg:∀ args w,(callFunc F args).run Tryz.prog w=.ok (.enter F args) w) (HF:∀ (v1 v2:Value) (lo:Nat) (W:World),OCells W lo v1 c.cells→OInts W lo v2 c.words→lo≤W.heap.size→Calls Tryz.prog F #[.agg (cvals c v1 v2),.agg (hvals h)] W fun e W'=>∃ T s,e=.panicked [{ v:=.iface T s,recovered:=false }]∧Below W.heap.size W W') :
    Calls Tryz.prog 78 #[.func (.func F) #[] #[],.agg (cvals c (.slice a c.cells.length p) (.slice b c.words.length q)),.agg (hvals h)] w fun e w'=>∃ T s,e=.panicked [{ v:=.iface T s,recovered:=false }]∧Below w.heap.size w w':=by
  obtain ⟨n1,n2⟩:=chan_len hc
  have l1:c.cells.length≤maxLen:=by unfold maxLen;omega
  have l2:c.words.length≤maxLen:=by unfold maxLen;omega
  have m1:c.cells.length≤1099511627776:=by omega
  have m2:c.words.length≤1099511627776:=by omega
  have H1:=Lib.hid h1
  have H2:=Lib.hid h2
  have Z1:=Lib.hid z1
  have Z2:=Lib.hid z2
  clear h1 h2 z1 z2 n1 n2
  have HFF:=Lib.hid HF
  clear HF
  go_enter Tryz.func78,Tryz.ntmps78
  go_wp2_with fail;refine bHit w (by exact zB) fun bb=>?_;refine (iChanOk_any c a b p q _ ((H1.out.below bb).more bb.size) ((H2.out.below bb).more bb.size) l1 l2).mono ?_;rintro _ w1 ⟨rfl,hbw1⟩;have hCw1:Below w.heap.size w w1:=bT bb hbw1;have hsw1:=hbw1.size;(try simp at hsw1);have zz:=q4 hbw1 (b:=w.heap.size);(try simp [go_sem] at zz);(try clear z_wppp x_wppp f_wppp l_wppp);(try clear z_wpp x_wpp f_wpp l_wpp);(try clear z_wp x_wp f_wp l_wp);(try clear z_w x_w f_w l_w);obtain ⟨z_wppp,z_wpp,z_wp,z_w⟩:=zz;obtain ⟨x_wppp,f_wppp,l_wppp⟩:=bO z_wppp;obtain ⟨x_wpp,f_wpp,l_wpp⟩:=bO z_wpp;obtain ⟨x_wp,f_wp,l_wp⟩:=bO z_wp;obtain ⟨x_w,f_w,l_w⟩:=bO z_w;clear hbw1 bb
  rw [hc]
  go_wp2_with fail;refine bHit w (by exact zB) fun bb=>?_;refine (handOk_any h _).mono ?_;rintro _ w2 ⟨rfl,hbw2⟩;have hCw2:Below w.heap.size w w2:=bT bb hbw2;have hsw2:=hbw2.size;(try simp at hsw2);have zz:=q4 hbw2 (b:=w.heap.size);(first|simp [go_sem,z_wppp,z_wpp,z_wp,z_w,l_w,l_wp,l_wpp,l_wppp] at zz|simp [go_sem] at zz|skip);(try clear z_wppp x_wppp f_wppp l_wppp);(try clear z_wpp x_wpp f_wpp l_wpp);(try clear z_wp x_wp f_wp l_wp);(try clear z_w x_w f_w l_w);obtain ⟨z_wppp,z_wpp,z_wp,z_w⟩:=zz;obtain ⟨x_wppp,f_wppp,l_wppp⟩:=bO z_wppp;obtain ⟨x_wpp,f_wpp,l_wpp⟩:=bO z_wpp;obtain ⟨x_wp,f_wp,l_wp⟩:=bO z_wp;obtain ⟨x_w,f_w,l_w⟩:=bO z_w;clear hbw2 bb
  rw [hh]
  go_upto_region 3 with fail
  refine wp_region_inv [[],[],[1],[],[0,1,2,3],[0,1,2,3,4],[0,1,2,3,4,5],[0,1,2,3,4,5],[0,1,2,3,4,5],[],[],[0,1,2,3,4,5,6,9],[0,1,2,3,4,5,7,10],[0,1,2,3,4,5,8]] [25,26,27,28,29,24,30,31,32,9,10,11] (fun l s wx=>(Below w2.heap.size w2 wx)∧(l 0=true→s 25=.func (.func F) #[] #[])∧(l 1=true→s 26=.agg (cvals c (.slice a c.cells.length p) (.slice b c.words.length q)))∧(l 2=true→s 27=.agg (cvals c (s 1001) (s 1002))∧OCells wx w2.heap.size (s 1001) c.cells∧OInts wx w2.heap.size (s 1002) c.words)∧(l 3=true→s 28=.agg (hvals h))∧(l 4=true→False)) (by kernel_rfl) (by kernel_rfl) (by kernel_rfl) (fun s=>by (simp only [fill,fillA,List.setIfInBounds_toArray,List.set_cons_zero,List.set_cons_succ];rfl)) (fun s=>⟨(Below.refl _ _).drew,fun h=>absurd h Bool.false_ne_true,fun h=>absurd h Bool.false_ne_true,fun h=>absurd h Bool.false_ne_true,fun h=>absurd h Bool.false_ne_true,fun h=>absurd h Bool.false_ne_true⟩) ?_ ?_
  refine ⟨?_,?_,?_,?_,?_,?_,?_,?_,?_,?_,?_,?_,?_,?_,trivial⟩;rotate_left 14
  · intro l s w8 hall hf
    exact (hf.2.2.2.2.2 (hall 4 rfl)).elim
  · intro l s wx hl hd hn hf0 K hK
    have hf:=Lib.hid hf0
    clear hf0
    go_simp
    refine hK.out (upd s 25 (.func (.func F) #[] #[])) _ _ (by simp [upd_at] <;> rfl) ⟨hf.out.1,fun _=>rfl,hf.out.2.2.1,hf.out.2.2.2.1,hf.out.2.2.2.2.1,nU (hn 4 rfl)⟩
  · intro l s wx hl hd hn hf0 K hK
    have hf:=Lib.hid hf0
    clear hf0
    have z:=hpS z_w hf.out.1
    go_simp
    refine hK.out (upd s 26 (.agg (cvals c (.slice a c.cells.length p) (.slice b c.words.length q)))) _ _ (by simp [upd_at] <;> rfl) ⟨hf.out.1,hf.out.2.1,fun _=>rfl,nU (hn 2 rfl),hf.out.2.2.2.2.1,nU (hn 4 rfl)⟩
  · intro l s wx hl hd hn hf0 K hK
    have hf:=Lib.hid hf0
    clear hf0
    have e1:=(hf.out.2.2.1 (hd 1 rfl))
    go_simp
    go_at_call 83
    refine (iCopied_any c a b p q _ ((H1.out.below (bT hCw2 hf.out.1)).more (Below.size (bT hCw2 hf.out.1))) Z1.out ((H2.out.below (bT hCw2 hf.out.1)).more (Below.size (bT hCw2 hf.out.1))) Z2.out m1 m2).mono ?_
    rintro _ wy ⟨⟨v1,v2,rfl,X1,X2⟩,hE⟩
    refine hK.out (upd (upd (upd s 1001 (v1)) 1002 (v2)) 27 (.agg (cvals c v1 v2))) _ _ (by simp [upd_at,e1] <;> rfl) ⟨bT hf.out.1 hE,hf.out.2.1,hf.out.2.2.1,fun _=>⟨rfl,own_lo X1 (Below.size hf.out.1),own_lo X2 (Below.size hf.out.1)⟩,hf.out.2.2.2.2.1,nU (hn 4 rfl)⟩
  · intro l s wx hl hd hn hf0 K hK
    have hf:=Lib.hid hf0
    clear hf0
    have z:=hpS z_wp hf.out.1
    go_simp
    refine hK.out (upd s 28 (.agg (hvals h))) _ _ (by simp [upd_at] <;> rfl) ⟨hf.out.1,hf.out.2.1,hf.out.2.2.1,hf.out.2.2.2.1,fun _=>rfl,nU (hn 4 rfl)⟩
  · intro l s wx hl hd hn hf0 K hK
    have hf:=Lib.hid hf0
    clear hf0
    have e0:=(hf.out.2.1 (hd 0 rfl))
    have e3:=(hf.out.2.2.2.2.1 (hd 3 rfl))
    obtain ⟨e2,o1,o2⟩:=(hf.out.2.2.2.1 (hd 2 rfl))
    go_simp
    refine (HFF.out _ _ w2.heap.size _ o1 o2 (Below.size hf.out.1)).mono ?_
    rintro _ wy ⟨T,sv,rfl,hE⟩
    exact ⟨rfl,T,sv,rfl,bT hCw2 (bT hf.out.1 hE)⟩
  · intro l s wx hl hd hn hf0 K hK
    exact (hf0.2.2.2.2.2 (hd 4 rfl)).elim
  · intro l s wx hl hd hn hf0 K hK
    exact (hf0.2.2.2.2.2 (hd 4 rfl)).elim
  · intro l s wx hl hd hn hf0 K hK
    exact (hf0.2.2.2.2.2 (hd 4 rfl)).elim
  · intro l s wx hl hd hn hf0 K hK
    exact (hf0.2.2.2.2.2 (hd 4 rfl)).elim
  · intro l s wx hl hd hn hf0 K hK
    have hf:=Lib.hid hf0
    clear hf0
    go_simp
    refine hK.out (upd s 9 (.pointer (some ⟨wx.heap.size,0,none⟩))) _ _ (by simp [upd_at] <;> rfl) ⟨bT hf.out.1 (belowAlloc _ _),hf.out.2.1,hf.out.2.2.1,fun h=>(let ⟨e,X1,X2⟩:=(hf.out.2.2.2.1 h);⟨e,own_below X1 (belowAlloc _ _),own_below X2 (belowAlloc _ _)⟩),hf.out.2.2.2.2.1,hf.out.2.2.2.2.2⟩
  · intro l s wx hl hd hn hf0 K hK
    have hf:=Lib.hid hf0
    clear hf0
    go_simp
    refine hK.out (upd s 10 (.pointer (some ⟨wx.heap.size,0,none⟩))) _ _ (by simp [upd_at] <;> rfl) ⟨bT hf.out.1 (belowAlloc _ _),hf.out.2.1,hf.out.2.2.1,fun h=>(let ⟨e,X1,X2⟩:=(hf.out.2.2.2.1 h);⟨e,own_below X1 (belowAlloc _ _),own_below X2 (belowAlloc _ _)⟩),hf.out.2.2.2.2.1,hf.out.2.2.2.2.2⟩
  · intro l s wx hl hd hn hf0 K hK
    exact (hf0.2.2.2.2.2 (hd 4 rfl)).elim
  · intro l s wx hl hd hn hf0 K hK
    exact (hf0.2.2.2.2.2 (hd 4 rfl)).elim
  · intro l s wx hl hd hn hf0 K hK
    exact (hf0.2.2.2.2.2 (hd 4 rfl)).elim
theorem parkStepI_any (c:Ch) (h:Ha) (a b:Option Addr) (p q:Nat) (w:World) (h1:Seg w w.heap.size a c.cells.length 3 (cellF c.cells)) (z1:a=none→p=0) (h2:Seg w w.heap.size b c.words.length 1 (intF c.words)) (z2:b=none→q=0) (l1:c.cells.length≤maxLen) (l2:c.words.length≤maxLen) :
    Calls Tryz.prog 125 #[.agg (cvals c (.slice a c.cells.length p) (.slice b c.words.length q)),.agg (hvals h)] w fun r w'=>StepN w w' (parkStep c h) r:=by
  cases hc:chanOk c with
  | false =>
    rw [show parkStep c h=nothing by simp [parkStep,stepOk,hc]]
    exact pface_yes nothing c h a b p q w h1 z1 h2 z2 fun W g1 y1 g2 y2=>touched_no1 _ c h a b p q W g1 y1 g2 y2 l1 l2 hc
  | true =>
    cases hh:handOk h with
    | false =>
      rw [show parkStep c h=nothing by simp [parkStep,stepOk,hh]]
      exact pface_yes nothing c h a b p q w h1 z1 h2 z2 fun W g1 y1 g2 y2=>touched_no2 _ c h a b p q W g1 y1 g2 y2 l1 l2 hc hh
    | true =>
      rcases parkTouch_any c h hc hh with ⟨x,e,HT⟩|⟨e,HT⟩
      · rw [e]
        exact pface_yes (fin7 x) c h a b p q w h1 z1 h2 z2 fun W g1 y1 g2 y2=>touched_via _ x c h a b p q W g1 y1 g2 y2 hc hh (fun args w=>by simp [go_sem]) HT
      · rw [e]
        exact pface_no c h a b p q w h1 z1 h2 z2 fun W g1 y1 g2 y2=>(touched_pan _ c h a b p q W g1 y1 g2 y2 hc hh (fun args w=>by simp [go_sem]) HT)
end Go.Proofs.YthfbnjfppjmgfaaGreat
set_option linter.unusedSimpArgs false
set_option linter.unusedVariables false
namespace Go.Proofs.YthfbnjfppjmgfaaGreat
open Go.RowKit
set_option linter.unusedSimpArgs false
attribute [local simp] bx_size
attribute [local go_sem ↓] zeroHand zeroChan toLHand toLChan toVHand toVChan storeHand storeChan storeHandC storeChanC
set_option maxRecDepth 100000 in
set_option maxHeartbeats 4000000 in
/-- Whether a step of the program waits. -/
theorem iStays_any (c:Ch) (h:Ha) (a b:Option Addr) (p q:Nat) (w:World) (h1:Seg w w.heap.size a c.cells.length 3 (cellF c.cells)) (z1:a=none→p=0) (h2:Seg w w.heap.size b c.words.length 1 (intF c.words)) (z2:b=none→q=0) (l1:c.cells.length≤maxLen) (l2:c.words.length≤maxLen) :
    Calls Tryz.prog 8 #[.agg (cvals c (.slice a c.cells.length p) (.slice b c.words.length q)),.agg (hvals h)] w fun r w'=>r=.returned (.bool (staysN (stepC c h)))∧Below w.heap.size w w':=by
  rw [← stays_P]
  have hp:h.pos≤0∨(1≤h.pos∧h.pos≤8)∨(9≤h.pos∧h.pos≤15)∨(16≤h.pos∧h.pos≤22)∨(23≤h.pos∧h.pos≤25)∨26≤h.pos:=by omega
  rcases hp with hp|hp|hp|hp|hp|hp
  · rw [stays_low c h (.inl (by omega))];exact iStays_low0 c h a b p q w hp
  · rw [stays_low c h (.inl (by omega))];exact iStays_low1 c h a b p q w hp
  · have e:stepP c h=recvStepP c h:=by unfold stepP;rw [show inB h.pos 1 8=false by simp [inB];omega,show inB h.pos 9 15=true by simp [inB];omega];rfl
    rw [e,← waits_stays c h _ (by omega) (waits_recv c h)]
    exact iStays_recv _ c h a b p q w h1 z1 h2 z2 (fun a b p q w h1 z1 h2 z2=>recvStepI_any c h a b p q w h1 z1 h2 z2 l1 l2) hp
  · have e:stepP c h=growStepP c h:=by unfold stepP;rw [show inB h.pos 1 8=false by simp [inB];omega,show inB h.pos 9 15=false by simp [inB];omega,show inB h.pos 16 22=true by simp [inB];omega];rfl
    rw [e,← waits_stays c h _ (by omega) (waits_grow c h)]
    exact iStays_grow _ c h a b p q w h1 z1 h2 z2 (fun a b p q w h1 z1 h2 z2=>growStepI_any c h a b p q w h1 z1 h2 z2 l1 l2) hp
  · have e:stepP c h=parkStep c h:=by unfold stepP;rw [show inB h.pos 1 8=false by simp [inB];omega,show inB h.pos 9 15=false by simp [inB];omega,show inB h.pos 16 22=false by simp [inB];omega];rfl
    rw [e,← waits_stays c h _ (by omega) (waits_park c h)]
    exact iStays_park _ c h a b p q w h1 z1 h2 z2 (fun a b p q w h1 z1 h2 z2=>parkStepI_any c h a b p q w h1 z1 h2 z2 l1 l2) hp
  · rw [stays_low c h (.inr hp)];exact iStays_low5 c h a b p q w hp
end Go.Proofs.YthfbnjfppjmgfaaGreat
set_option linter.unusedSimpArgs false
set_option linter.unusedVariables false
namespace Go.Proofs.YthfbnjfppjmgfaaGreat
open Go.RowKit
set_option linter.unusedSimpArgs false
attribute [local simp] bx_size
attribute [local go_sem ↓] zeroHand zeroChan toLHand toLChan toVHand toVChan storeHand storeChan storeHandC storeChanC
attribute [local go_sem ↓] toLHandL toLChanL
set_option maxRecDepth 100000 in
set_option maxHeartbeats 8000000 in
theorem exactStaysAt_any (c:Ch) (h:Ha) (a b:Option Addr) (p q:Nat) (w:World) (h1:Seg w w.heap.size a c.cells.length 3 (cellF c.cells)) (h2:Seg w w.heap.size b c.words.length 1 (intF c.words)) (m1:c.cells.length≤maxLen) (m2:c.words.length≤maxLen) :
    Calls Tryz.prog 3 #[.agg (cvals c (.slice a c.cells.length p) (.slice b c.words.length q)),.agg (hvals h)] w fun r w'=>r=.returned (.bool true)∧Below w.heap.size w w':=by
  have H1:=Lib.hid h1
  have H2:=Lib.hid h2
  have M1:=Lib.hid m1
  have M2:=Lib.hid m2
  clear h1 h2 m1 m2
  by_cases hl:leftC 1048576 c<0
  · go_enter Tryz.func3,Tryz.ntmps3
    go_wp2_with fail
    refine (szChan_any c a b p q 1048576 _ (by omega) (by omega) M1.out M2.out).mono ?_
    rintro _ w1 ⟨rfl,hb1⟩
    have hB1:Below w.heap.size w w1:=bT (by exact zB) hb1
    go_wp2
    go_ret
    exact ⟨rfl,hB1⟩
  · obtain ⟨n1,n2⟩:=left_len hl
    have hs:=fun a b p q w h1 z1 h2 z2=>sStays_via _ c h a b p q w h1 z1 h2 z2 (fun a b p q w h1 z1 h2 z2=>sStep_any c h a b p q w h1 z1 h2 z2)
    have hi:=fun a b p q w h1 z1 h2 z2=>iStays_any c h a b p q w h1 z1 h2 z2 M1.out M2.out
    generalize staysN (stepC c h)=ans at *
    have HS:=Lib.hid hs
    have HI:=Lib.hid hi
    clear hs hi
    go_enter Tryz.func3,Tryz.ntmps3
    go_wp2_with fail
    refine (szChan_any c a b p q 1048576 _ (by omega) (by omega) M1.out M2.out).mono ?_
    rintro _ w1 ⟨rfl,hbw1⟩
    have hB1:Below w.heap.size w w1:=bT (by exact zB) hbw1
    have hsw1:=hbw1.size;(try (simp at hsw1));have zz:=hQ hbw1 (b:=w.heap.size);(first|(simp [go_sem,z_w,l_w] at zz)|(simp [go_sem] at zz));(try clear x_w f_w);(try clear z_w);have z_w:=zz;clear zz;(try clear l_w);obtain ⟨x_w,f_w,l_w⟩:=bO z_w;have zz:=hQ hbw1 (b:=w.heap.size+1);(first|(simp [go_sem,z_wp,l_wp] at zz)|(simp [go_sem] at zz));(try clear x_wp f_wp);(try clear z_wp);have z_wp:=zz;clear zz;(try clear l_wp);obtain ⟨x_wp,f_wp,l_wp⟩:=bO z_wp
    clear hbw1
    go_upto_region 5 with fail
    refine wp_region_inv [[],[0],[],[2],[0,1,2,3],[0,1,2,3,4]] [14,15,16,17,18,6] (fun l s wx=>(Below w1.heap.size w1 wx)∧(l 0=true→s 14=.agg (cvals c (.slice a c.cells.length p) (.slice b c.words.length q)))∧(l 1=true→∃ g1 g2:Nat,s 15=.agg (cvals c (.slice (some ⟨g1,0,none⟩) c.cells.length c.cells.length) (.slice (some ⟨g2,0,none⟩) c.words.length c.words.length))∧Row wx g1 59 c.cells.length 3 (cellF c.cells)∧Row wx g2 2 c.words.length 1 (intF c.words))∧(l 2=true→s 16=.agg (hvals h))∧(l 3=true→s 17=.agg (hvals h))∧(l 4=true→s 18=.bool ans)∧(l 5=true→s 6=.bool ans)) (by kernel_rfl) (by kernel_rfl) (by kernel_rfl) (fun s=>by (simp only [fill,fillA,List.setIfInBounds_toArray,List.set_cons_zero,List.set_cons_succ];rfl)) (fun s=>⟨(Below.refl _ _).drew,fun h=>absurd h Bool.false_ne_true,fun h=>absurd h Bool.false_ne_true,fun h=>absurd h Bool.false_ne_true,fun h=>absurd h Bool.false_ne_true,fun h=>absurd h Bool.false_ne_true,fun h=>absurd h Bool.false_ne_true⟩) ?_ ?_
    refine ⟨?_,?_,?_,?_,?_,?_,trivial⟩;rotate_left 6
    · intro l s w5 hall hf
      have hC5:Below w1.heap.size w1 w5:=hf.1
      have ec:=(hf.2.2.2.2.2.2 (hall 5 rfl))
      simp only [ec]
      clear ec hf hall
      have hB5:Below w.heap.size w w5:=bT hB1 hC5
      have hs5:=hC5.size
      replace z_w:=hpS z_w hC5
      clear x_w f_w l_w
      obtain ⟨x_w,f_w,l_w⟩:=bO z_w
      replace z_wp:=hpS z_wp hC5
      clear x_wp f_wp l_wp
      obtain ⟨x_wp,f_wp,l_wp⟩:=bO z_wp
      go_wp2_with fail
      refine (toChan_any c a b p q _ ((H1.out.below (by exact zB)).more (by (try simp) <;> omega)) ((H2.out.below (by exact zB)).more (by (try simp) <;> omega)) n1 n2).mono ?_
      rintro _ w6 ⟨⟨g3,g4,rfl,lg3,lg4,Rg3,Rg4⟩,hb6⟩
      have hC6:Below w5.heap.size w5 w6:=bT (by exact zB) hb6
      have hB6:Below w.heap.size w w6:=bT hB5 hC6
      have hs6:=hC6.size
      clear hb6 lg3 lg4
      replace z_w:=hpS z_w hC6
      clear x_w f_w l_w
      obtain ⟨x_w,f_w,l_w⟩:=bO z_w
      replace z_wp:=hpS z_wp hC6
      clear x_wp f_wp l_wp
      obtain ⟨x_wp,f_wp,l_wp⟩:=bO z_wp
      go_upto_region 7 with fail
      generalize hw7:World.alloc w6 _=w7
      have z_w6:hp w7 w6.heap.size=some (.cells (cvals c (.slice (some ⟨g3,0,none⟩) c.cells.length c.cells.length) (.slice (some ⟨g4,0,none⟩) c.words.length c.words.length)) 34):=by rw [← hw7];simp [go_sem] <;> rfl
      have hC7:Below w6.heap.size w6 w7:=by rw [← hw7];exact belowAlloc _ _
      clear hw7
      have hB7:Below w.heap.size w w7:=bT hB6 hC7
      have hs7:=hC7.size
      replace Rg3:=Rg3.belowS hC7
      replace Rg4:=Rg4.belowS hC7
      obtain ⟨x_w6,f_w6,l_w6⟩:=bO z_w6
      replace z_w:=hpS z_w hC7
      clear x_w f_w l_w
      obtain ⟨x_w,f_w,l_w⟩:=bO z_w
      replace z_wp:=hpS z_wp hC7
      clear x_wp f_wp l_wp
      obtain ⟨x_wp,f_wp,l_wp⟩:=bO z_wp
      refine wp_region_inv [[],[],[1],[0,1,2],[0,1,2,3]] [21,22,23,24,8] (fun l s wx=>(Below w7.heap.size w7 wx)∧(l 0=true→s 21=.agg (cvals c (.slice (some ⟨g3,0,none⟩) c.cells.length c.cells.length) (.slice (some ⟨g4,0,none⟩) c.words.length c.words.length)))∧(l 1=true→s 22=.agg (hvals h))∧(l 2=true→s 23=.agg (hvals h))∧(l 3=true→s 24=.bool ans)∧(l 4=true→s 8=.bool ans)) (by kernel_rfl) (by kernel_rfl) (by kernel_rfl) (fun s=>by (simp only [fill,fillA,List.setIfInBounds_toArray,List.set_cons_zero,List.set_cons_succ];rfl)) (fun s=>⟨(Below.refl _ _).drew,fun h=>absurd h Bool.false_ne_true,fun h=>absurd h Bool.false_ne_true,fun h=>absurd h Bool.false_ne_true,fun h=>absurd h Bool.false_ne_true,fun h=>absurd h Bool.false_ne_true⟩) ?_ ?_
      refine ⟨?_,?_,?_,?_,?_,trivial⟩;rotate_left 5
      · intro l s w8 hall hf
        have hC8:Below w7.heap.size w7 w8:=hf.1
        have ec:=(hf.2.2.2.2.2 (hall 4 rfl))
        simp only [ec]
        clear ec hf hall
        have hB8:Below w.heap.size w w8:=bT hB7 hC8
        have hs8:=hC8.size
        replace Rg3:=Rg3.belowS hC8
        replace Rg4:=Rg4.belowS hC8
        replace z_w:=hpS z_w hC8
        clear x_w f_w l_w
        obtain ⟨x_w,f_w,l_w⟩:=bO z_w
        replace z_wp:=hpS z_wp hC8
        clear x_wp f_wp l_wp
        obtain ⟨x_wp,f_wp,l_wp⟩:=bO z_wp
        replace z_w6:=hpS z_w6 hC8
        clear x_w6 f_w6 l_w6
        obtain ⟨x_w6,f_w6,l_w6⟩:=bO z_w6
        cases ans
        · skip
          go_upto_region 10 with fail
          refine wp_region_inv [[],[],[1],[0,1,2],[0,1,2,3]] [28,29,30,31,32] (fun l s wx=>(Below w8.heap.size w8 wx)∧(l 0=true→s 28=.agg (cvals c (.slice (some ⟨g3,0,none⟩) c.cells.length c.cells.length) (.slice (some ⟨g4,0,none⟩) c.words.length c.words.length)))∧(l 1=true→s 29=.agg (cvals c (.slice a c.cells.length p) (.slice b c.words.length q)))∧(l 2=true→∃ g1 g2:Nat,s 30=.agg (cvals c (.slice (some ⟨g1,0,none⟩) c.cells.length c.cells.length) (.slice (some ⟨g2,0,none⟩) c.words.length c.words.length))∧Row wx g1 59 c.cells.length 3 (cellF c.cells)∧Row wx g2 2 c.words.length 1 (intF c.words))∧(l 3=true→s 31=.bool true)∧(l 4=true→s 32=.bool false)) (by kernel_rfl) (by kernel_rfl) (by kernel_rfl) (fun s=>by (simp only [fill,fillA,List.setIfInBounds_toArray,List.set_cons_zero,List.set_cons_succ];rfl)) (fun s=>⟨(Below.refl _ _).drew,fun h=>absurd h Bool.false_ne_true,fun h=>absurd h Bool.false_ne_true,fun h=>absurd h Bool.false_ne_true,fun h=>absurd h Bool.false_ne_true,fun h=>absurd h Bool.false_ne_true⟩) ?_ ?_
          refine ⟨?_,?_,?_,?_,?_,trivial⟩;rotate_left 5
          · intro l s w9 hall hf
            have hC9:Below w8.heap.size w8 w9:=hf.1
            have ec:=(hf.2.2.2.2.2 (hall 4 rfl))
            simp only [ec]
            clear ec hf hall
            have hB9:Below w.heap.size w w9:=bT hB8 hC9
            have hs9:=hC9.size
            replace z_w:=hpS z_w hC9
            clear x_w f_w l_w
            obtain ⟨x_w,f_w,l_w⟩:=bO z_w
            replace z_wp:=hpS z_wp hC9
            clear x_wp f_wp l_wp
            obtain ⟨x_wp,f_wp,l_wp⟩:=bO z_wp
            replace z_w6:=hpS z_w6 hC9
            clear x_w6 f_w6 l_w6
            obtain ⟨x_w6,f_w6,l_w6⟩:=bO z_w6
            go_wp2
            go_ret
            exact ⟨rfl,hB9⟩
          · intro l s wx hl hd hn hf0 K hK
            have hf:=Lib.hid hf0
            clear hf0
            have z:=hpS z_w6 hf.out.1
            go_simp
            refine hK.out (upd s 28 (.agg (cvals c (.slice (some ⟨g3,0,none⟩) c.cells.length c.cells.length) (.slice (some ⟨g4,0,none⟩) c.words.length c.words.length)))) _ _ (by simp [upd_at] <;> rfl) ⟨hf.out.1,fun _=>rfl,hf.out.2.2.1,hf.out.2.2.2.1,nU (hn 3 rfl),nU (hn 4 rfl)⟩
          · intro l s wx hl hd hn hf0 K hK
            have hf:=Lib.hid hf0
            clear hf0
            have z:=hpS z_w hf.out.1
            go_simp
            refine hK.out (upd s 29 (.agg (cvals c (.slice a c.cells.length p) (.slice b c.words.length q)))) _ _ (by simp [upd_at] <;> rfl) ⟨hf.out.1,hf.out.2.1,fun _=>rfl,nU (hn 2 rfl),nU (hn 3 rfl),nU (hn 4 rfl)⟩
          · intro l s wx hl hd hn hf0 K hK
            have hf:=Lib.hid hf0
            clear hf0
            have e1:=(hf.out.2.2.1 (hd 1 rfl))
            go_simp
            go_at_call 6
            refine (toChan_any c a b p q _ ((H1.out.below (bT hB8 hf.out.1)).more (Below.size (bT hB8 hf.out.1))) ((H2.out.below (bT hB8 hf.out.1)).more (Below.size (bT hB8 hf.out.1))) n1 n2).mono ?_
            rintro _ wy ⟨⟨g1,g2,rfl,_,_,R1,R2⟩,hE⟩
            refine hK.out (upd s 30 ((.agg (cvals c (.slice (some ⟨g1,0,none⟩) c.cells.length c.cells.length) (.slice (some ⟨g2,0,none⟩) c.words.length c.words.length))))) _ _ (by simp [upd_at,e1] <;> rfl) ⟨bT hf.out.1 hE,hf.out.2.1,hf.out.2.2.1,fun _=>⟨g1,g2,rfl,R1,R2⟩,nU (hn 3 rfl),nU (hn 4 rfl)⟩
          · intro l s wx hl hd hn hf0 K hK
            have hf:=Lib.hid hf0
            clear hf0
            have e0:=(hf.out.2.1 (hd 0 rfl))
            obtain ⟨g1,g2,et,R1,R2⟩:=(hf.out.2.2.2.1 (hd 2 rfl))
            go_simp
            go_at_call 9
            refine (eqChan_any c _ _ _ _ _ _ _ _ _ (Rg3.belowS hf.out.1).seg (Rg4.belowS hf.out.1).seg R1.seg R2.seg n1 n2).mono ?_
            rintro _ wy ⟨rfl,hE⟩
            refine hK.out (upd s 31 (.bool true)) _ _ (by simp [upd_at,e0,et] <;> rfl) ⟨bT hf.out.1 hE,hf.out.2.1,hf.out.2.2.1,fun h=>(let ⟨g1,g2,e,R1,R2⟩:=(hf.out.2.2.2.1 h);⟨g1,g2,e,R1.belowS hE,R2.belowS hE⟩),fun _=>rfl,nU (hn 4 rfl)⟩
          · intro l s wx hl hd hn hf0 K hK
            have hf:=Lib.hid hf0
            clear hf0
            have e3:=(hf.out.2.2.2.2.1 (hd 3 rfl))
            go_simp
            refine hK.out (upd s 32 (.bool false)) _ _ (by simp [upd_at,e3] <;> rfl) ⟨hf.out.1,hf.out.2.1,hf.out.2.2.1,hf.out.2.2.2.1,hf.out.2.2.2.2.1,fun _=>rfl⟩
        · skip
          go_upto_region 10 with fail
          refine wp_region_inv [[],[],[1],[0,1,2],[0,1,2,3]] [28,29,30,31,32] (fun l s wx=>(Below w8.heap.size w8 wx)∧(l 0=true→s 28=.agg (cvals c (.slice (some ⟨g3,0,none⟩) c.cells.length c.cells.length) (.slice (some ⟨g4,0,none⟩) c.words.length c.words.length)))∧(l 1=true→s 29=.agg (cvals c (.slice a c.cells.length p) (.slice b c.words.length q)))∧(l 2=true→∃ g1 g2:Nat,s 30=.agg (cvals c (.slice (some ⟨g1,0,none⟩) c.cells.length c.cells.length) (.slice (some ⟨g2,0,none⟩) c.words.length c.words.length))∧Row wx g1 59 c.cells.length 3 (cellF c.cells)∧Row wx g2 2 c.words.length 1 (intF c.words))∧(l 3=true→s 31=.bool true)∧(l 4=true→s 32=.bool false)) (by kernel_rfl) (by kernel_rfl) (by kernel_rfl) (fun s=>by (simp only [fill,fillA,List.setIfInBounds_toArray,List.set_cons_zero,List.set_cons_succ];rfl)) (fun s=>⟨(Below.refl _ _).drew,fun h=>absurd h Bool.false_ne_true,fun h=>absurd h Bool.false_ne_true,fun h=>absurd h Bool.false_ne_true,fun h=>absurd h Bool.false_ne_true,fun h=>absurd h Bool.false_ne_true⟩) ?_ ?_
          refine ⟨?_,?_,?_,?_,?_,trivial⟩;rotate_left 5
          · intro l s w9 hall hf
            have hC9:Below w8.heap.size w8 w9:=hf.1
            have ec:=(hf.2.2.2.2.2 (hall 4 rfl))
            simp only [ec]
            clear ec hf hall
            have hB9:Below w.heap.size w w9:=bT hB8 hC9
            have hs9:=hC9.size
            replace z_w:=hpS z_w hC9
            clear x_w f_w l_w
            obtain ⟨x_w,f_w,l_w⟩:=bO z_w
            replace z_wp:=hpS z_wp hC9
            clear x_wp f_wp l_wp
            obtain ⟨x_wp,f_wp,l_wp⟩:=bO z_wp
            replace z_w6:=hpS z_w6 hC9
            clear x_w6 f_w6 l_w6
            obtain ⟨x_w6,f_w6,l_w6⟩:=bO z_w6
            go_wp2
            go_ret
            exact ⟨rfl,hB9⟩
          · intro l s wx hl hd hn hf0 K hK
            have hf:=Lib.hid hf0
            clear hf0
            have z:=hpS z_w6 hf.out.1
            go_simp
            refine hK.out (upd s 28 (.agg (cvals c (.slice (some ⟨g3,0,none⟩) c.cells.length c.cells.length) (.slice (some ⟨g4,0,none⟩) c.words.length c.words.length)))) _ _ (by simp [upd_at] <;> rfl) ⟨hf.out.1,fun _=>rfl,hf.out.2.2.1,hf.out.2.2.2.1,nU (hn 3 rfl),nU (hn 4 rfl)⟩
          · intro l s wx hl hd hn hf0 K hK
            have hf:=Lib.hid hf0
            clear hf0
            have z:=hpS z_w hf.out.1
            go_simp
            refine hK.out (upd s 29 (.agg (cvals c (.slice a c.cells.length p) (.slice b c.words.length q)))) _ _ (by simp [upd_at] <;> rfl) ⟨hf.out.1,hf.out.2.1,fun _=>rfl,nU (hn 2 rfl),nU (hn 3 rfl),nU (hn 4 rfl)⟩
          · intro l s wx hl hd hn hf0 K hK
            have hf:=Lib.hid hf0
            clear hf0
            have e1:=(hf.out.2.2.1 (hd 1 rfl))
            go_simp
            go_at_call 6
            refine (toChan_any c a b p q _ ((H1.out.below (bT hB8 hf.out.1)).more (Below.size (bT hB8 hf.out.1))) ((H2.out.below (bT hB8 hf.out.1)).more (Below.size (bT hB8 hf.out.1))) n1 n2).mono ?_
            rintro _ wy ⟨⟨g1,g2,rfl,_,_,R1,R2⟩,hE⟩
            refine hK.out (upd s 30 ((.agg (cvals c (.slice (some ⟨g1,0,none⟩) c.cells.length c.cells.length) (.slice (some ⟨g2,0,none⟩) c.words.length c.words.length))))) _ _ (by simp [upd_at,e1] <;> rfl) ⟨bT hf.out.1 hE,hf.out.2.1,hf.out.2.2.1,fun _=>⟨g1,g2,rfl,R1,R2⟩,nU (hn 3 rfl),nU (hn 4 rfl)⟩
          · intro l s wx hl hd hn hf0 K hK
            have hf:=Lib.hid hf0
            clear hf0
            have e0:=(hf.out.2.1 (hd 0 rfl))
            obtain ⟨g1,g2,et,R1,R2⟩:=(hf.out.2.2.2.1 (hd 2 rfl))
            go_simp
            go_at_call 9
            refine (eqChan_any c _ _ _ _ _ _ _ _ _ (Rg3.belowS hf.out.1).seg (Rg4.belowS hf.out.1).seg R1.seg R2.seg n1 n2).mono ?_
            rintro _ wy ⟨rfl,hE⟩
            refine hK.out (upd s 31 (.bool true)) _ _ (by simp [upd_at,e0,et] <;> rfl) ⟨bT hf.out.1 hE,hf.out.2.1,hf.out.2.2.1,fun h=>(let ⟨g1,g2,e,R1,R2⟩:=(hf.out.2.2.2.1 h);⟨g1,g2,e,R1.belowS hE,R2.belowS hE⟩),fun _=>rfl,nU (hn 4 rfl)⟩
          · intro l s wx hl hd hn hf0 K hK
            have hf:=Lib.hid hf0
            clear hf0
            have e3:=(hf.out.2.2.2.2.1 (hd 3 rfl))
            go_simp
            refine hK.out (upd s 32 (.bool false)) _ _ (by simp [upd_at,e3] <;> rfl) ⟨hf.out.1,hf.out.2.1,hf.out.2.2.1,hf.out.2.2.2.1,hf.out.2.2.2.2.1,fun _=>rfl⟩
      · intro l s wx hl hd hn hf0 K hK
        have hf:=Lib.hid hf0
        clear hf0
        have z:=hpS z_w6 hf.out.1
        go_simp
        refine hK.out (upd s 21 (.agg (cvals c (.slice (some ⟨g3,0,none⟩) c.cells.length c.cells.length) (.slice (some ⟨g4,0,none⟩) c.words.length c.words.length)))) _ _ (by simp [upd_at] <;> rfl) ⟨hf.out.1,fun _=>rfl,hf.out.2.2.1,hf.out.2.2.2.1,nU (hn 3 rfl),nU (hn 4 rfl)⟩
      · intro l s wx hl hd hn hf0 K hK
        have hf:=Lib.hid hf0
        clear hf0
        have z:=hpS z_wp hf.out.1
        go_simp
        refine hK.out (upd s 22 (.agg (hvals h))) _ _ (by simp [upd_at] <;> rfl) ⟨hf.out.1,hf.out.2.1,fun _=>rfl,nU (hn 2 rfl),nU (hn 3 rfl),nU (hn 4 rfl)⟩
      · intro l s wx hl hd hn hf0 K hK
        have hf:=Lib.hid hf0
        clear hf0
        have e1:=(hf.out.2.2.1 (hd 1 rfl))
        go_simp
        go_at_call 7
        refine (toHand_any h _).mono ?_
        rintro _ wy ⟨rfl,hE⟩
        refine hK.out (upd s 23 (.agg (hvals h))) _ _ (by simp [upd_at,e1] <;> rfl) ⟨bT hf.out.1 hE,hf.out.2.1,hf.out.2.2.1,fun _=>rfl,nU (hn 3 rfl),nU (hn 4 rfl)⟩
      · intro l s wx hl hd hn hf0 K hK
        have hf:=Lib.hid hf0
        clear hf0
        have e0:=(hf.out.2.1 (hd 0 rfl))
        have e2:=(hf.out.2.2.2.1 (hd 2 rfl))
        go_simp
        go_at_call 8
        refine (HI.out _ _ _ _ _ (Rg3.belowS hf.out.1).seg (fun e=>by cases e) (Rg4.belowS hf.out.1).seg (fun e=>by cases e)).mono ?_
        rintro _ wy ⟨rfl,hE⟩
        refine hK.out (upd s 24 (.bool ans)) _ _ (by simp [upd_at,e0,e2] <;> rfl) ⟨bT hf.out.1 hE,hf.out.2.1,hf.out.2.2.1,hf.out.2.2.2.1,fun _=>rfl,nU (hn 4 rfl)⟩
      · intro l s wx hl hd hn hf0 K hK
        have hf:=Lib.hid hf0
        clear hf0
        have e3:=(hf.out.2.2.2.2.1 (hd 3 rfl))
        go_simp
        refine hK.out (upd s 8 (.bool ans)) _ _ (by simp [upd_at,e3] <;> rfl) ⟨hf.out.1,hf.out.2.1,hf.out.2.2.1,hf.out.2.2.2.1,hf.out.2.2.2.2.1,fun _=>rfl⟩
    · intro l s wx hl hd hn hf0 K hK
      have hf:=Lib.hid hf0
      clear hf0
      have z:=hpS z_w hf.out.1
      go_simp
      refine hK.out (upd s 14 (.agg (cvals c (.slice a c.cells.length p) (.slice b c.words.length q)))) _ _ (by simp [upd_at] <;> rfl) ⟨hf.out.1,fun _=>rfl,nU (hn 1 rfl),hf.out.2.2.2.1,hf.out.2.2.2.2.1,nU (hn 4 rfl),nU (hn 5 rfl)⟩
    · intro l s wx hl hd hn hf0 K hK
      have hf:=Lib.hid hf0
      clear hf0
      have e0:=(hf.out.2.1 (hd 0 rfl))
      go_simp
      go_at_call 6
      refine (toChan_any c a b p q _ ((H1.out.below (bT hB1 hf.out.1)).more (Below.size (bT hB1 hf.out.1))) ((H2.out.below (bT hB1 hf.out.1)).more (Below.size (bT hB1 hf.out.1))) n1 n2).mono ?_
      rintro _ wy ⟨⟨g1,g2,rfl,_,_,R1,R2⟩,hE⟩
      refine hK.out (upd s 15 ((.agg (cvals c (.slice (some ⟨g1,0,none⟩) c.cells.length c.cells.length) (.slice (some ⟨g2,0,none⟩) c.words.length c.words.length))))) _ _ (by simp [upd_at,e0] <;> rfl) ⟨bT hf.out.1 hE,hf.out.2.1,fun _=>⟨g1,g2,rfl,R1,R2⟩,hf.out.2.2.2.1,hf.out.2.2.2.2.1,nU (hn 4 rfl),nU (hn 5 rfl)⟩
    · intro l s wx hl hd hn hf0 K hK
      have hf:=Lib.hid hf0
      clear hf0
      have z:=hpS z_wp hf.out.1
      go_simp
      refine hK.out (upd s 16 (.agg (hvals h))) _ _ (by simp [upd_at] <;> rfl) ⟨hf.out.1,hf.out.2.1,hf.out.2.2.1,fun _=>rfl,nU (hn 3 rfl),nU (hn 4 rfl),nU (hn 5 rfl)⟩
    · intro l s wx hl hd hn hf0 K hK
      have hf:=Lib.hid hf0
      clear hf0
      have e2:=(hf.out.2.2.2.1 (hd 2 rfl))
      go_simp
      go_at_call 7
      refine (toHand_any h _).mono ?_
      rintro _ wy ⟨rfl,hE⟩
      refine hK.out (upd s 17 (.agg (hvals h))) _ _ (by simp [upd_at,e2] <;> rfl) ⟨bT hf.out.1 hE,hf.out.2.1,fun h=>(let ⟨g1,g2,e,R1,R2⟩:=(hf.out.2.2.1 h);⟨g1,g2,e,R1.belowS hE,R2.belowS hE⟩),hf.out.2.2.2.1,fun _=>rfl,nU (hn 4 rfl),nU (hn 5 rfl)⟩
    · intro l s wx hl hd hn hf0 K hK
      have hf:=Lib.hid hf0
      clear hf0
      have e3:=(hf.out.2.2.2.2.1 (hd 3 rfl))
      obtain ⟨g1,g2,et,R1,R2⟩:=(hf.out.2.2.1 (hd 1 rfl))
      go_simp
      go_at_call 5
      refine (HS.out _ _ _ _ _ R1.seg (fun e=>by cases e) R2.seg (fun e=>by cases e)).mono ?_
      rintro _ wy ⟨rfl,hE⟩
      refine hK.out (upd s 18 (.bool ans)) _ _ (by simp [upd_at,et,e3] <;> rfl) ⟨bT hf.out.1 hE,hf.out.2.1,fun h=>(let ⟨g1,g2,e,R1,R2⟩:=(hf.out.2.2.1 h);⟨g1,g2,e,R1.belowS hE,R2.belowS hE⟩),hf.out.2.2.2.1,hf.out.2.2.2.2.1,fun _=>rfl,nU (hn 5 rfl)⟩
    · intro l s wx hl hd hn hf0 K hK
      have hf:=Lib.hid hf0
      clear hf0
      have e4:=(hf.out.2.2.2.2.2.1 (hd 4 rfl))
      go_simp
      refine hK.out (upd s 6 (.bool ans)) _ _ (by simp [upd_at,e4] <;> rfl) ⟨hf.out.1,hf.out.2.1,hf.out.2.2.1,hf.out.2.2.2.1,hf.out.2.2.2.2.1,hf.out.2.2.2.2.2.1,fun _=>rfl⟩
end Go.Proofs.YthfbnjfppjmgfaaGreat
set_option maxRecDepth 100000
set_option linter.unusedSimpArgs false
set_option linter.unusedVariables false
namespace Go.Proofs.YthfbnjfppjmgfaaGreat
open Go.ChangeShapes Go.WideShapes Go.ChangeAt Go.RowKit Go.Deep
theorem own:ownKnob Tryz.prog.godebug=none:=by kernel_rfl
theorem laidOut:laidOutB Tryz.prog=true:=by kernel_rfl
section
variable {H:Type} {enc:TypeId × Value→H} {P:Program} {w:World} {spare:Nat→Bool} {held:Bool}
/-- A slice of elements that can be read lies in memory as said. -/
theorem dSlice {α:Type} (k:Nat) (val:α→Nat→Value) (Q:α→Prop) (d0:α) {t e:TypeId} (ht:P.underlying t=some (.slice e)) (hk:P.cellsOf e=k) (hk0:0<k)
    (dec:∀ (fuel:Nat) (cs:List Value) (x:DataW H × List MemPlace),DataW.trod enc P w 0 spare held fuel e cs=some x→∃ c:α,Q c∧∀ j,j<k→cs[j]?=some (val c j))
    {fuel:Nat} {cs:List Value} {x:DataW H × List MemPlace} (h:DataW.trod enc P w 0 spare held fuel t cs=some x) :
    ∃ (a:Option Addr) (l:List α) (cap:Nat),cs=[.slice a l.length cap]∧l.length≤cap∧cap≤maxLen∧(∀ c ∈ l,Q c)∧Seg w w.heap.size a l.length k (fun i j=>val (l.getD i d0) j):=by
  rcases open_slice ht h with ⟨hcs,_⟩|⟨ad,len,cap,m,n,D,Pl,hcs,_,hl,hm,hmm,_,hi⟩
  · exact ⟨none,[],0,hcs,Nat.le_refl _,Nat.zero_le _,by simp,.inl rfl⟩
  · have hlm:len≤m:=by rw [hmm];split <;> omega
    have hx:∀ i:Nat,∃ c:α,i<len→(Q c∧∀ j,j<k→w.cell? (ad.add (i*k+j))=some (val c j)):=by
      intro i
      by_cases hlt:i<len
      · obtain ⟨cs',hc,htr⟩:=hi i (by omega)
        rw [hk] at hc
        obtain ⟨_,_,hat⟩:=World.cells?_some hc
        obtain ⟨c,hq,hv⟩:=dec _ _ _ htr
        refine ⟨c,fun _=>⟨hq,fun j hj=>?_⟩⟩
        rw [← Go.Deep.add_add,hat j hj,hv j hj]
      · exact ⟨d0,fun h=>absurd h hlt⟩
    obtain ⟨g,hg⟩:=Classical.axiomOfChoice hx
    refine ⟨some ad,(List.range len).map g,cap,by simpa using hcs,by simpa using hl,hm,?_,?_⟩
    · intro c hc
      obtain ⟨i,hi',rfl⟩:=List.mem_map.1 hc
      exact (hg i (List.mem_range.1 hi')).1
    · by_cases h0:len=0
      · exact .inl (by simpa using h0)
      · obtain ⟨b,off,spot⟩:=ad
        have hz:=(hg 0 (by omega)).2 0 hk0
        have hspot:spot=none:=by simpa [Addr.add] using World.cell?_spot hz
        subst hspot
        refine .inr ⟨b,off,rfl,?_,fun i j hi' hj=>?_⟩
        · have:=block_lt_of_cell hz
          simpa [Addr.add] using this
        · have hlt:i<len:=by simpa using hi'
          have:=(hg i hlt).2 j hj
          rw [add_plain,← Nat.add_assoc] at this
          rw [this]
          simp [List.getD,hlt]
end
/-- Every field is one int64, in its place. -/
def allInts (P:Program) (fs:Array Field):Bool:=fs.toList.zipIdx.all fun (f,i)=>decide (f.offset=i) && decide (P.cellsOf f.type=1) && (match P.underlying f.type with|some (.int .i64)=>true|_=>false)
theorem allInts_at {P:Program} {fs:Array Field} (h:allInts P fs=true) {j:Nat} {f:Field} (hj:fs[j]?=some f):f.offset=j∧P.cellsOf f.type=1∧P.underlying f.type=some (.int .i64):=by
  have hm:(f,j) ∈ fs.toList.zipIdx:=by
    rw [List.mem_zipIdx_iff_getElem?]
    simpa using hj
  have:=List.all_eq_true.1 h _ hm
  simp only [Bool.and_eq_true,decide_eq_true_eq] at this
  refine ⟨this.1.1,this.1.2,?_⟩
  have h2:=this.2
  split at h2
  · assumption
  · cases h2
section
variable {H:Type} {enc:TypeId × Value→H} {P:Program} {w:World} {spare:Nat→Bool} {held:Bool}
theorem dInts {t:TypeId} {fs:Array Field} (ht:P.underlying t=some (.struct fs)) (hall:allInts P fs=true) (hC:P.cellsOf t=fs.size)
    {fuel:Nat} {cs:List Value} {x:DataW H × List MemPlace} (h:DataW.trod enc P w 0 spare held fuel t cs=some x) :
    cs.length=fs.size∧∃ g:Nat→Int,∀ j,j<fs.size→(cs[j]?=some (.int .i64 (g j))∧(Lit.int .i64 (g j)).wf=true):=by
  obtain ⟨xs,n,_,_,hlen,hxl,hf⟩:=DataW.trod_struct ht h
  have hx:∀ j:Nat,∃ a:Int,j<fs.size→(cs[j]?=some (.int .i64 a)∧(Lit.int .i64 a).wf=true):=by
    intro j
    by_cases hj:j<fs.size
    · obtain ⟨h1,h2,h3⟩:=allInts_at hall (Array.getElem?_eq_getElem hj)
      have g:=hf j _ (Array.getElem?_eq_getElem hj)
      rw [h1,h2,List.getElem?_eq_getElem (by omega)] at g
      obtain ⟨a,ea,_,wa⟩:=DataW.trod_int h3 g
      refine ⟨a,fun _=>⟨?_,wa⟩⟩
      have e:=congrArg (fun l:List Value=>l[0]?) ea
      simpa [List.getElem?_take,List.getElem?_drop] using e
    · exact ⟨0,fun h=>absurd h hj⟩
  obtain ⟨g,hg⟩:=Classical.axiomOfChoice hx
  exact ⟨hlen.trans hC,g,hg⟩
end
def C3.wf (c:C3):Prop:=(Lit.int .i64 c.s).wf=true∧(Lit.int .i64 c.e).wf=true∧(Lit.int .i64 c.t).wf=true
section
variable {H:Type} {enc:TypeId × Value→H} {w:World} {spare:Nat→Bool} {held:Bool}
theorem dCell (fuel:Nat) (cs:List Value) (x:DataW H × List MemPlace) (h:DataW.trod enc Tryz.prog w 0 spare held fuel 61 cs=some x) :
    ∃ c:C3,c.wf∧∀ j,j<3→cs[j]?=some (c.val j):=by
  obtain ⟨_,g,hg⟩:=dInts Tryz.underlying61 (by kernel_rfl) (by kernel_rfl) h
  refine ⟨⟨g 0,g 1,g 2⟩,⟨(hg 0 (by decide)).2,(hg 1 (by decide)).2,(hg 2 (by decide)).2⟩,fun j hj=>?_⟩
  have:j=0∨j=1∨j=2:=by omega
  rcases this with rfl|rfl|rfl
  · exact (hg 0 (by decide)).1
  · exact (hg 1 (by decide)).1
  · exact (hg 2 (by decide)).1
end
end Go.Proofs.YthfbnjfppjmgfaaGreat
set_option maxRecDepth 100000
set_option linter.unusedSimpArgs false
set_option linter.unusedVariables false
namespace Go.Proofs.YthfbnjfppjmgfaaGreat
open Go.ChangeShapes Go.WideShapes Go.ChangeAt Go.RowKit Go.Deep
section
variable {H:Type} {enc:TypeId × Value→H} {w:World} {spare:Nat→Bool} {held:Bool}
theorem dInt (fuel:Nat) (cs:List Value) (x:DataW H × List MemPlace) (hx:DataW.trod enc Tryz.prog w 0 spare held fuel 2 cs=some x) :
    ∃ c:Int,(Lit.int .i64 c).wf=true∧∀ j,j<1→cs[j]?=some (Value.int .i64 c):=by
  obtain ⟨c,rfl,_,hw⟩:=DataW.trod_int Tryz.underlying2 hx
  refine ⟨c,hw,fun j hj=>?_⟩
  have:j=0:=by omega
  subst this;rfl
/-- A channel as an argument. -/
theorem oChan {r:Reach} {b0:Nat} {v:Value} {d:DataW H} {pl:List MemPlace} (hv:Value.okWide Tryz.prog w r b0 25 v) (h:DataW.Trod enc Tryz.prog w 0 spare held 25 v d pl) :
    ∃ (c:Ch) (a b:Option Addr) (p q:Nat),v=.agg #[.int .i64 c.cap,.int .i64 c.sent,.int .i64 c.got,.int .i64 c.fin,.slice a c.cells.length p,.slice b c.words.length q]∧c.cells.length≤maxLen∧c.words.length≤maxLen ∧
      Seg w w.heap.size a c.cells.length 3 (cellF c.cells)∧Seg w w.heap.size b c.words.length 1 (intF c.words):=by
  obtain ⟨cs,rfl,hsz⟩:=okWide_struct Tryz.underlying25 hv
  obtain ⟨l⟩:=cs
  have h3:Tryz.prog.cellsOf 25=6:=by kernel_rfl
  have hs:l.length=6:=by simpa [h3] using hsz
  obtain ⟨fuel,hf⟩:=h
  obtain ⟨xs,n,_,_,hlen,hxl,hg⟩:=DataW.trod_struct Tryz.underlying25 hf
  match l,hs with
  | [v0,v1,v2,v3,v4,v5],_ =>
    have c2:Tryz.prog.cellsOf 2=1:=by kernel_rfl
    have c4:Tryz.prog.cellsOf 22=1:=by kernel_rfl
    have c5:Tryz.prog.cellsOf 23=1:=by kernel_rfl
    have g0:=hg 0 _ rfl
    have g1:=hg 1 _ rfl
    have g2:=hg 2 _ rfl
    have g3:=hg 3 _ rfl
    have g4:=hg 4 _ rfl
    have g5:=hg 5 _ rfl
    rw [List.getElem?_eq_getElem (by simp at hxl;omega)] at g0 g1 g2 g3 g4 g5
    obtain ⟨x0,_,e0⟩:=dInt _ _ _ g0
    obtain ⟨x1,_,e1⟩:=dInt _ _ _ g1
    obtain ⟨x2,_,e2⟩:=dInt _ _ _ g2
    obtain ⟨x3,_,e3⟩:=dInt _ _ _ g3
    obtain ⟨a,cells,p,e4,m1,m2,_,s1⟩:=dSlice 3 C3.val C3.wf ⟨0,0,0⟩ Tryz.underlying22 (by kernel_rfl) (by decide) dCell g4
    obtain ⟨b,words,q,e5,m3,m4,_,s2⟩:=dSlice 1 (fun (c:Int) _=>.int .i64 c) (fun c=>(Lit.int .i64 c).wf=true) 0 Tryz.underlying23 (by kernel_rfl) (by decide) dInt g5
    replace e0:=e0 0 (by omega)
    replace e1:=e1 0 (by omega)
    replace e2:=e2 0 (by omega)
    replace e3:=e3 0 (by omega)
    simp [c2,Value.cells] at e0 e1 e2 e3
    simp [c4,Value.cells] at e4
    simp [c5,Value.cells] at e5
    subst e0 e1 e2 e3 e4 e5
    exact ⟨⟨x0,x1,x2,x3,cells,words⟩,a,b,p,q,rfl,Nat.le_trans m1 m2,Nat.le_trans m3 m4,s1,s2⟩
end
end Go.Proofs.YthfbnjfppjmgfaaGreat
set_option maxRecDepth 100000
set_option linter.unusedSimpArgs false
set_option linter.unusedVariables false
namespace Go.Proofs.YthfbnjfppjmgfaaGreat
open Go.ChangeShapes Go.WideShapes Go.ChangeAt Go.RowKit Go.Deep
section
variable {H:Type} {enc:TypeId × Value→H} {w:World} {spare:Nat→Bool} {held:Bool}
theorem dCallL (fuel:Nat) (cs:List Value) (x:DataW H × List MemPlace) (h:DataW.trod enc Tryz.prog w 0 spare held fuel 27 cs=some x) :
    ∃ k e:Int,cs[0]?=some (.int .i64 k)∧cs[1]?=some (.int .i64 e):=by
  obtain ⟨_,g,hg⟩:=dInts Tryz.underlying27 (by kernel_rfl) (by kernel_rfl) h
  exact ⟨g 0,g 1,(hg 0 (by decide)).1,(hg 1 (by decide)).1⟩
theorem dIntL (fuel:Nat) (cs:List Value) (x:DataW H × List MemPlace) (hx:DataW.trod enc Tryz.prog w 0 spare held fuel 2 cs=some x):∃ c:Int,cs[0]?=some (Value.int .i64 c):=by
  obtain ⟨c,rfl,_,_⟩:=DataW.trod_int Tryz.underlying2 hx
  exact ⟨c,rfl⟩
set_option maxRecDepth 100000 in
theorem dHand (fuel:Nat) (cs:List Value) (x:DataW H × List MemPlace) (h:DataW.trod enc Tryz.prog w 0 spare held fuel 29 cs=some x) :
    ∃ y:Ha,∀ j,j<14→cs[j]?=(hvals y)[j]?:=by
  obtain ⟨xs,n,_,_,hlen,hxl,hg⟩:=DataW.trod_struct Tryz.underlying29 h
  have c2:Tryz.prog.cellsOf 2=1:=by kernel_rfl
  have c3:Tryz.prog.cellsOf 27=2:=by kernel_rfl
  have g0:=hg 0 _ rfl
  have g1:=hg 1 _ rfl
  have g2:=hg 2 _ rfl
  have g3:=hg 3 _ rfl
  have g4:=hg 4 _ rfl
  have g5:=hg 5 _ rfl
  have g6:=hg 6 _ rfl
  have g7:=hg 7 _ rfl
  have g8:=hg 8 _ rfl
  have g9:=hg 9 _ rfl
  have g10:=hg 10 _ rfl
  have g11:=hg 11 _ rfl
  have g12:=hg 12 _ rfl
  rw [List.getElem?_eq_getElem (by simp at hxl;omega)] at g0 g1 g2 g3 g4 g5 g6 g7 g8 g9 g10 g11 g12
  obtain ⟨x0,e0⟩:=dIntL _ _ _ g0
  obtain ⟨k,e,ek,ee⟩:=dCallL _ _ _ g1
  obtain ⟨x2,e2⟩:=dIntL _ _ _ g2
  obtain ⟨x3,e3⟩:=dIntL _ _ _ g3
  obtain ⟨x4,e4⟩:=dIntL _ _ _ g4
  obtain ⟨x5,e5⟩:=dIntL _ _ _ g5
  obtain ⟨x6,e6⟩:=dIntL _ _ _ g6
  obtain ⟨x7,e7⟩:=dIntL _ _ _ g7
  obtain ⟨x8,e8⟩:=dIntL _ _ _ g8
  obtain ⟨x9,e9⟩:=dIntL _ _ _ g9
  obtain ⟨x10,e10⟩:=dIntL _ _ _ g10
  obtain ⟨x11,e11⟩:=dIntL _ _ _ g11
  obtain ⟨x12,e12⟩:=dIntL _ _ _ g12
  simp [c2,c3,List.getElem?_take,List.getElem?_drop] at e0 ek ee e2 e3 e4 e5 e6 e7 e8 e9 e10 e11 e12
  refine ⟨⟨x0,k,e,x2,x3,x4,x5,x6,x7,x8,x9,x10,x11,x12⟩,fun j hj=>?_⟩
  have hj2:j=0∨j=1∨j=2∨j=3∨j=4∨j=5∨j=6∨j=7∨j=8∨j=9∨j=10∨j=11∨j=12∨j=13:=by omega
  rcases hj2 with rfl|rfl|rfl|rfl|rfl|rfl|rfl|rfl|rfl|rfl|rfl|rfl|rfl|rfl
  · exact e0
  · exact ek
  · exact ee
  · exact e2
  · exact e3
  · exact e4
  · exact e5
  · exact e6
  · exact e7
  · exact e8
  · exact e9
  · exact e10
  · exact e11
  · exact e12
/-- A hand as an argument. -/
theorem oHand {r:Reach} {b0:Nat} {v:Value} {d:DataW H} {p:List MemPlace} (hv:Value.okWide Tryz.prog w r b0 29 v) (h:DataW.Trod enc Tryz.prog w 0 spare held 29 v d p) :
    ∃ y:Ha,v=.agg (hvals y):=by
  obtain ⟨cs,rfl,hsz⟩:=okWide_struct Tryz.underlying29 hv
  have h3:Tryz.prog.cellsOf 29=14:=by kernel_rfl
  obtain ⟨fuel,hf⟩:=h
  obtain ⟨y,hy⟩:=dHand _ _ _ hf
  refine ⟨y,congrArg Value.agg (Array.ext_getElem? fun j=>?_)⟩
  by_cases hj:j<14
  · have:=hy j hj
    simpa [Value.cells] using this
  · rw [Array.getElem?_eq_none (by omega),Array.getElem?_eq_none (by rw [hv_size];omega)]
end
end Go.Proofs.YthfbnjfppjmgfaaGreat
