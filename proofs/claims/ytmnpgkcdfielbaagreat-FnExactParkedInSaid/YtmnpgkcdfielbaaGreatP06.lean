/-
  What the program's steps of chapters 7 and 8 compute where the document has a cell's Waiter stay, as plain functions; no condition.
  Whether a step waits: alike for a step of the document and for one of the program, which leaves a cell's Waiter where the document says so; no condition.
  Two hands that are kept whole are compared as structs; no condition.
  Whether a step of the program waits, by the contracts of its steps; lists lie in memory.
  What is kept of a row of facts, in few letters.
  The contracts of the program's functions of chapter 1; no condition but that lists lie in memory.
-/
import Derived.Test.YtmnpgkcdfielbaaGreatP05
import Derived.Test.YtmnpgkcdfielbaaGreatP02
import Derived.Laws.StructEq
import Derived.Deep.RegionHeld3
import Derived.Deep.DeepCutAuto
import Derived.Test.YtmnpgkcdfielbaaGreatP01
set_option linter.unusedSimpArgs false
set_option linter.unusedVariables false
namespace Go.Proofs.YtmnpgkcdfielbaaGreat
def take7P (c:Ch) (h:Ha):St:=if h.seen == 3 then turn7 c h 5 (cellAt c h.cell).t { h with pos:=13 } else take7 c h
def recvStepP (c:Ch) (h:Ha):St:=if stepOk c h 9 15 2 && h.pos == 12 then take7P c h else recvStep c h
def pull8P (c:Ch) (h:Ha):St:=if h.seen == 3 then turn8 c h 6 (cellAt c h.grow).t { h with pos:=20 } else pull8 c h
def growStepP (c:Ch) (h:Ha):St:=if stepOk c h 16 22 2 && h.pos == 19 then pull8P c h else growStep c h
def stepP (c:Ch) (h:Ha):St :=
  if inB h.pos 1 8 then sendStep c h else if inB h.pos 9 15 then recvStepP c h else if inB h.pos 16 22 then growStepP c h else parkStep c h
/-- The cell turned, or not. -/
def tnS (c:Ch) (st wt:Int) (y z:Ha):St:=if turnCB c y.cell y.seen st wt then (turnC c y.cell y.seen st wt,y,true) else (c,z,true)
end Go.Proofs.YtmnpgkcdfielbaaGreat
set_option linter.unusedSimpArgs false
set_option linter.unusedVariables false
namespace Go.Proofs.YtmnpgkcdfielbaaGreat
def staysN (s:St):Bool:=!s.2.2 && decide (0<s.1.cells.length)
theorem stays_done (c:Ch) (h:Ha):staysN (done c h)=false:=by
  unfold staysN done
  split <;> simp [nothing,Ch.zero]
theorem stays_nothing:staysN nothing=false:=by simp [staysN,nothing,Ch.zero]
theorem stays_turn7 (c:Ch) (h:Ha) (a b:Int) (y:Ha):staysN (turn7 c h a b y)=false:=by
  unfold turn7
  split <;> exact stays_done _ _
theorem stays_turn8 (c:Ch) (h:Ha) (a b:Int) (y:Ha):staysN (turn8 c h a b y)=false:=by
  unfold turn8
  split <;> exact stays_done _ _
theorem stays_take7 (c:Ch) (h:Ha) (e:h.seen=3):staysN (take7 c h)=false:=by
  have e2:(h.seen == 2)=false:=by simp [e]
  have e3:(h.seen == 3)=true:=by simp [e]
  unfold take7
  rw [e2,e3]
  exact stays_turn7 _ _ _ _ _
theorem stays_pull8 (c:Ch) (h:Ha) (e:h.seen=3):staysN (pull8 c h)=false:=by
  have e3:(h.seen == 3)=true:=by simp [e]
  unfold pull8
  rw [e3]
  exact stays_turn8 _ _ _ _ _
theorem stays_takeP (c:Ch) (h:Ha):staysN (take7P c h)=staysN (take7 c h):=by
  unfold take7P
  split
  · rename_i e
    rw [stays_take7 c h (by simpa using e),stays_turn7]
  · rfl
theorem stays_pullP (c:Ch) (h:Ha):staysN (pull8P c h)=staysN (pull8 c h):=by
  unfold pull8P
  split
  · rename_i e
    rw [stays_pull8 c h (by simpa using e),stays_turn8]
  · rfl
theorem stays_recvP (c:Ch) (h:Ha):staysN (recvStepP c h)=staysN (recvStep c h):=by
  unfold recvStepP
  split
  · rename_i e
    rw [Bool.and_eq_true] at e
    have p:h.pos=12:=by simpa using e.2
    rw [stays_takeP]
    unfold recvStep
    rw [if_pos e.1]
    simp [p]
  · rfl
theorem stays_growP (c:Ch) (h:Ha):staysN (growStepP c h)=staysN (growStep c h):=by
  unfold growStepP
  split
  · rename_i e
    rw [Bool.and_eq_true] at e
    have p:h.pos=19:=by simpa using e.2
    rw [stays_pullP]
    unfold growStep
    rw [if_pos e.1]
    simp [p]
  · rfl
theorem stays_P (c:Ch) (h:Ha):staysN (stepP c h)=staysN (stepC c h):=by
  unfold stepP stepC
  split
  · rfl
  · split
    · exact stays_recvP c h
    · split
      · exact stays_growP c h
      · rfl
end Go.Proofs.YtmnpgkcdfielbaaGreat
set_option linter.unusedSimpArgs false
set_option linter.unusedVariables false
namespace Go.Proofs.YtmnpgkcdfielbaaGreat
open Go.RowKit
def eqHa (a b:Ha):Bool:=a.pos == b.pos && ((a.code == b.code && a.elem == b.elem) && (a.cell == b.cell && (a.seen == b.seen && (a.wait == b.wait && (a.fin == b.fin && (a.come == b.come && (a.grow == b.grow && (a.mine == b.mine && (a.nxt == b.nxt && (a.beg == b.beg && (a.reply == b.reply && a.out == b.out)))))))))))
theorem eqHa_iff (a b:Ha):eqHa a b=true↔a=b:=by
  obtain ⟨a1,a2,a3,a4,a5,a6,a7,a8,a9,a10,a11,a12,a13,a14⟩:=a
  obtain ⟨b1,b2,b3,b4,b5,b6,b7,b8,b9,b10,b11,b12,b13,b14⟩:=b
  simp [eqHa,and_assoc]
theorem eqHa_self (a:Ha):eqHa a a=true:=(eqHa_iff a a).2 rfl
theorem eqCallV (a b c d:Int) (n:Nat) (w:World):(Op.equalIn (n+1+1) 68 (.agg #[.int .i64 a,.int .i64 b]) (.agg #[.int .i64 c,.int .i64 d])).run Tryz.prog w=.ok (a == c && b == d) w:=by
  have u3:=Tryz.underlying2
  have a3:=Tryz.isAgg2
  have z3:=Tryz.sizeOf2
  have hS:Tryz.prog.underlying 68=some (.struct (Tryz.prog.fieldsOf 68)):=by kernel_rfl
  rw [run_equalIn_agg w (n+1) 68 _ _ hS (by kernel_rfl)]
  simp only [Program.fieldsOf,Tryz.underlying68]
  go_simp
  by_cases h1:a=c <;> by_cases h2:b=d <;> simp [h1,h2]
theorem eqHandV (x y:Ha) (w:World):(Op.equalIn 10000 70 (.agg (hvals x)) (.agg (hvals y))).run Tryz.prog w=.ok (eqHa x y) w:=by
  have u3:=Tryz.underlying2
  have a3:=Tryz.isAgg2
  have z3:=Tryz.sizeOf2
  have a4:=Tryz.isAgg68
  have z4:=Tryz.sizeOf68
  have hS:Tryz.prog.underlying 70=some (.struct (Tryz.prog.fieldsOf 70)):=by kernel_rfl
  rw [show (10000:Nat)=9998+1+1 from rfl,run_equalIn_agg w (9998+1) 70 _ _ hS (by kernel_rfl)]
  simp only [Program.fieldsOf,Tryz.underlying70]
  simp [hvals,Op.eqFields,go_sem,eqCallV,eqHa, *]
  by_cases h0:x.pos=y.pos <;> simp [h0]
  by_cases h1:x.code=y.code <;> simp [h1]
  by_cases h2:x.elem=y.elem <;> simp [h2]
  by_cases h3:x.cell=y.cell <;> simp [h3]
  by_cases h4:x.seen=y.seen <;> simp [h4]
  by_cases h5:x.wait=y.wait <;> simp [h5]
  by_cases h6:x.fin=y.fin <;> simp [h6]
  by_cases h7:x.come=y.come <;> simp [h7]
  by_cases h8:x.grow=y.grow <;> simp [h8]
  by_cases h9:x.mine=y.mine <;> simp [h9]
  by_cases h10:x.nxt=y.nxt <;> simp [h10]
  by_cases h11:x.beg=y.beg <;> simp [h11]
  by_cases h12:x.reply=y.reply <;> simp [h12]
  by_cases h13:x.out=y.out <;> simp [h13]
end Go.Proofs.YtmnpgkcdfielbaaGreat
set_option linter.unusedSimpArgs false
set_option linter.unusedVariables false
namespace Go.Proofs.YtmnpgkcdfielbaaGreat
open Go.RowKit
set_option linter.unusedSimpArgs false
attribute [local simp] bx_size
attribute [local go_sem ↓] zeroHand zeroChan toLHand toLChan toVHand toVChan storeHand storeChan storeHandC storeChanC
theorem wait_done (c:Ch) (h:Ha):done c h=nothing∨(done c h).2.2=true:=by
  unfold done
  split
  · exact .inr rfl
  · exact .inl rfl
theorem wait_turn7 (c:Ch) (h:Ha) (a b:Int) (y:Ha):turn7 c h a b y=nothing∨(turn7 c h a b y).2.2=true:=by
  unfold turn7
  split <;> exact wait_done _ _
theorem wait_turn8 (c:Ch) (h:Ha) (a b:Int) (y:Ha):turn8 c h a b y=nothing∨(turn8 c h a b y).2.2=true:=by
  unfold turn8
  split <;> exact wait_done _ _
theorem wait_take7 (c:Ch) (h:Ha):take7 c h=nothing∨(take7 c h).2.2=true:=by
  unfold take7
  repeat' split
  all_goals first|exact wait_turn7 _ _ _ _ _|exact wait_done _ _|exact .inl rfl
theorem wait_pull8 (c:Ch) (h:Ha):pull8 c h=nothing∨(pull8 c h).2.2=true:=by
  unfold pull8
  repeat' split
  all_goals first|exact wait_turn8 _ _ _ _ _|exact .inl rfl
theorem wait_take7P (c:Ch) (h:Ha):take7P c h=nothing∨(take7P c h).2.2=true:=by
  unfold take7P
  split
  · exact wait_turn7 _ _ _ _ _
  · exact wait_take7 c h
theorem wait_pull8P (c:Ch) (h:Ha):pull8P c h=nothing∨(pull8P c h).2.2=true:=by
  unfold pull8P
  split
  · exact wait_turn8 _ _ _ _ _
  · exact wait_pull8 c h
/-- A step is refused, or done, or it waits with all as it is. -/
def Waits (c:Ch) (h:Ha) (x:St):Prop:=(x=nothing∨x.2.2=true)∨(chanOk c=true∧x=(c,h,false))
theorem waits_recv (c:Ch) (h:Ha):Waits c h (recvStepP c h):=by
  unfold recvStepP
  split
  · exact .inl (wait_take7P c h)
  · unfold recvStep
    split
    · rename_i e
      have hc:chanOk c=true:=(stepOk_yes e).1
      unfold recv1 recv2 wake7
      repeat' split
      all_goals first|exact .inl (wait_done _ _)|exact .inl (wait_take7 _ _)|exact .inl (.inl rfl)|exact .inr ⟨hc,rfl⟩
    · exact .inl (.inl rfl)
theorem waits_grow (c:Ch) (h:Ha):Waits c h (growStepP c h):=by
  unfold growStepP
  split
  · exact .inl (wait_pull8P c h)
  · unfold growStep
    split
    · rename_i e
      have hc:chanOk c=true:=(stepOk_yes e).1
      unfold meetStep raise8
      repeat' split
      all_goals first|exact .inl (wait_done _ _)|exact .inl (wait_pull8 _ _)|exact .inl (.inl rfl)|exact .inr ⟨hc,rfl⟩
    · exact .inl (.inl rfl)
theorem waits_park (c:Ch) (h:Ha):Waits c h (parkStep c h):=by
  unfold parkStep
  split
  · rename_i e
    have hc:chanOk c=true:=(stepOk_yes (Bool.and_eq_true_iff.1 e).1).1
    unfold park9
    repeat' split
    all_goals first|exact .inl (wait_done _ _)|exact .inl (.inl rfl)|exact .inr ⟨hc,rfl⟩
  · exact .inl (.inl rfl)
theorem waits_stays (c:Ch) (h:Ha) (x:St) (hp:h.pos≠0) (hw:Waits c h x):(!x.2.2 && eqHa x.2.1 h)=staysN x:=by
  rcases hw with (rfl|e)|⟨hc,rfl⟩
  · have:eqHa nothing.2.1 h=false:=by
      cases he:eqHa nothing.2.1 h with
      | false=>rfl
      | true=>rw [eqHa_iff] at he;rw [← he] at hp;exact absurd rfl hp
    rw [this,stays_nothing]
    rfl
  · simp [e,staysN]
  · have:=(chan_40 hc).1
    simp [eqHa_self,staysN,this]
theorem waits_send (c:Ch) (h:Ha):sendStep c h=nothing∨(sendStep c h).2.2=true:=by
  unfold sendStep send1 send2 send3 put6
  repeat' split
  all_goals first|exact wait_done _ _|exact .inl rfl
theorem stays_low (c:Ch) (h:Ha) (hp:h.pos≤8∨26≤h.pos):staysN (stepP c h)=false:=by
  have key:∀ x:St,(x=nothing∨x.2.2=true)→staysN x=false:=by
    rintro x (rfl|e)
    · exact stays_nothing
    · simp [staysN,e]
  unfold stepP
  rw [show inB h.pos 9 15=false by simp [inB];omega,show inB h.pos 16 22=false by simp [inB];omega]
  simp only [Bool.false_eq_true,if_false]
  split
  · exact key _ (waits_send c h)
  · rename_i e
    refine key _ (.inl ?_)
    have e2:inB h.pos 23 25=false:=by
      simp [inB] at e ⊢
      omega
    simp [parkStep,stepOk,e2]
set_option maxRecDepth 100000 in
set_option maxHeartbeats 4000000 in
/-- The recv table's step. -/
theorem recvTable_via (x:St) (c:Ch) (h:Ha) (a b:Option Addr) (p q:Nat) (w:World) (h1:Seg w w.heap.size a c.cells.length 3 (cellF c.cells)) (z1:a=none→p=0) (h2:Seg w w.heap.size b c.words.length 1 (intF c.words)) (z2:b=none→q=0)
    (hs:∀ (a b:Option Addr) (p q:Nat) (w:World),Seg w w.heap.size a c.cells.length 3 (cellF c.cells)→(a=none→p=0)→Seg w w.heap.size b c.words.length 1 (intF c.words)→(b=none→q=0)→Calls Tryz.prog 126 #[.agg (cvals c (.slice a c.cells.length p) (.slice b c.words.length q)),.agg (hvals h)] w fun r w'=>StepN w w' x r) :
    Calls Tryz.prog 125 #[.agg #[],.agg (cvals c (.slice a c.cells.length p) (.slice b c.words.length q)),.agg (hvals h)] w fun r w'=>StepN w w' x r:=by
  have H1:=Lib.hid h1
  have H2:=Lib.hid h2
  have Z1:=Lib.hid z1
  have Z2:=Lib.hid z2
  have HS:=Lib.hid hs
  clear h1 h2 z1 z2 hs
  have d1:∀ j,(Value.slice none 0 0).ownBlock=some j→w.heap.size+1+1+1+1+1≤j:=fun j hj=>by cases hj
  have d2:=d1
  go_enter Tryz.func125,Tryz.ntmps125
  go_wp2_with fail;refine bHit w (by exact zB) fun bb=>?_;refine (HS.out _ _ _ _ _ ((H1.out.below bb).more bb.size) Z1.out ((H2.out.below bb).more bb.size) Z2.out).mono ?_;rintro _ w9 ⟨⟨y1,y2,rfl,oY1,oY2,fY1,fY2⟩,hbw9⟩;have hCw9:Below w.heap.size w w9:=bT bb hbw9;have hsw9:=hbw9.size;(try simp at hsw9);have zz:=And.intro (hQ hbw9 (b:=w.heap.size+1+1+1+1)) <| And.intro (hQ hbw9 (b:=w.heap.size+1+1+1)) <| And.intro (hQ hbw9 (b:=w.heap.size+1+1)) <| And.intro (hQ hbw9 (b:=w.heap.size+1)) <| hQ hbw9 (b:=w.heap.size);(try simp [go_sem] at zz);(try clear z_wpppp x_wpppp f_wpppp l_wpppp);(try clear z_wppp x_wppp f_wppp l_wppp);(try clear z_wpp x_wpp f_wpp l_wpp);(try clear z_wp x_wp f_wp l_wp);(try clear z_w x_w f_w l_w);obtain ⟨z_wpppp,z_wppp,z_wpp,z_wp,z_w⟩:=zz;obtain ⟨x_wpppp,f_wpppp,l_wpppp⟩:=bO z_wpppp;obtain ⟨x_wppp,f_wppp,l_wppp⟩:=bO z_wppp;obtain ⟨x_wpp,f_wpp,l_wpp⟩:=bO z_wpp;obtain ⟨x_wp,f_wp,l_wp⟩:=bO z_wp;obtain ⟨x_w,f_w,l_w⟩:=bO z_w;clear hbw9 bb
  replace oY1:OCells w9 w.heap.size y1 x.1.cells:=own_lo oY1 (by simp;omega)
  replace oY2:OInts w9 w.heap.size y2 x.1.words:=own_lo oY2 (by simp;omega)
  have hoff1:∀ j,w.heap.size≤j→j<w.heap.size+1+1+1+1+1→y1.ownBlock≠some j:=fun j _ h2=>fY1.off2 d1 h2 (by (try simp) <;> omega);have hoff2:∀ j,w.heap.size≤j→j<w.heap.size+1+1+1+1+1→y2.ownBlock≠some j:=fun j _ h2=>fY2.off2 d2 h2 (by (try simp) <;> omega);have fr1:Fresh w (.slice none 0 0) y1:=fun j hj=>.inr (fY1.up d1 (by (try simp) <;> omega) (by (try simp) <;> omega) j hj);have fr2:Fresh w (.slice none 0 0) y2:=fun j hj=>.inr (fY2.up d2 (by (try simp) <;> omega) (by (try simp) <;> omega) j hj);obtain ⟨ya,yp,rfl,_⟩:=oY1.seg;obtain ⟨yb,yq,rfl,_⟩:=oY2.seg
  go_wp2
  refine bodyPost_ret (res_cct Tryz.results125 rfl (ldChan x.1 (.slice ya x.1.cells.length yp) (.slice yb x.1.words.length yq) (by simp [go_sem, *])) rfl (ldHand x.2.1 (by simp [go_sem, *]))) rfl ⟨⟨_,_,rfl,?_,?_,fr1,fr2⟩,by exact zB⟩
  · exact zP oY1 oY1 hoff1
  · exact zP oY2 oY2 hoff2
set_option maxRecDepth 100000 in
set_option maxHeartbeats 4000000 in
/-- The grow table's step. -/
theorem growTable_via (x:St) (c:Ch) (h:Ha) (a b:Option Addr) (p q:Nat) (w:World) (h1:Seg w w.heap.size a c.cells.length 3 (cellF c.cells)) (z1:a=none→p=0) (h2:Seg w w.heap.size b c.words.length 1 (intF c.words)) (z2:b=none→q=0)
    (hs:∀ (a b:Option Addr) (p q:Nat) (w:World),Seg w w.heap.size a c.cells.length 3 (cellF c.cells)→(a=none→p=0)→Seg w w.heap.size b c.words.length 1 (intF c.words)→(b=none→q=0)→Calls Tryz.prog 154 #[.agg (cvals c (.slice a c.cells.length p) (.slice b c.words.length q)),.agg (hvals h)] w fun r w'=>StepN w w' x r) :
    Calls Tryz.prog 153 #[.agg #[],.agg (cvals c (.slice a c.cells.length p) (.slice b c.words.length q)),.agg (hvals h)] w fun r w'=>StepN w w' x r:=by
  have H1:=Lib.hid h1
  have H2:=Lib.hid h2
  have Z1:=Lib.hid z1
  have Z2:=Lib.hid z2
  have HS:=Lib.hid hs
  clear h1 h2 z1 z2 hs
  have d1:∀ j,(Value.slice none 0 0).ownBlock=some j→w.heap.size+1+1+1+1+1≤j:=fun j hj=>by cases hj
  have d2:=d1
  go_enter Tryz.func153,Tryz.ntmps153
  go_wp2_with fail;refine bHit w (by exact zB) fun bb=>?_;refine (HS.out _ _ _ _ _ ((H1.out.below bb).more bb.size) Z1.out ((H2.out.below bb).more bb.size) Z2.out).mono ?_;rintro _ w9 ⟨⟨y1,y2,rfl,oY1,oY2,fY1,fY2⟩,hbw9⟩;have hCw9:Below w.heap.size w w9:=bT bb hbw9;have hsw9:=hbw9.size;(try simp at hsw9);have zz:=And.intro (hQ hbw9 (b:=w.heap.size+1+1+1+1)) <| And.intro (hQ hbw9 (b:=w.heap.size+1+1+1)) <| And.intro (hQ hbw9 (b:=w.heap.size+1+1)) <| And.intro (hQ hbw9 (b:=w.heap.size+1)) <| hQ hbw9 (b:=w.heap.size);(try simp [go_sem] at zz);(try clear z_wpppp x_wpppp f_wpppp l_wpppp);(try clear z_wppp x_wppp f_wppp l_wppp);(try clear z_wpp x_wpp f_wpp l_wpp);(try clear z_wp x_wp f_wp l_wp);(try clear z_w x_w f_w l_w);obtain ⟨z_wpppp,z_wppp,z_wpp,z_wp,z_w⟩:=zz;obtain ⟨x_wpppp,f_wpppp,l_wpppp⟩:=bO z_wpppp;obtain ⟨x_wppp,f_wppp,l_wppp⟩:=bO z_wppp;obtain ⟨x_wpp,f_wpp,l_wpp⟩:=bO z_wpp;obtain ⟨x_wp,f_wp,l_wp⟩:=bO z_wp;obtain ⟨x_w,f_w,l_w⟩:=bO z_w;clear hbw9 bb
  replace oY1:OCells w9 w.heap.size y1 x.1.cells:=own_lo oY1 (by simp;omega)
  replace oY2:OInts w9 w.heap.size y2 x.1.words:=own_lo oY2 (by simp;omega)
  have hoff1:∀ j,w.heap.size≤j→j<w.heap.size+1+1+1+1+1→y1.ownBlock≠some j:=fun j _ h2=>fY1.off2 d1 h2 (by (try simp) <;> omega);have hoff2:∀ j,w.heap.size≤j→j<w.heap.size+1+1+1+1+1→y2.ownBlock≠some j:=fun j _ h2=>fY2.off2 d2 h2 (by (try simp) <;> omega);have fr1:Fresh w (.slice none 0 0) y1:=fun j hj=>.inr (fY1.up d1 (by (try simp) <;> omega) (by (try simp) <;> omega) j hj);have fr2:Fresh w (.slice none 0 0) y2:=fun j hj=>.inr (fY2.up d2 (by (try simp) <;> omega) (by (try simp) <;> omega) j hj);obtain ⟨ya,yp,rfl,_⟩:=oY1.seg;obtain ⟨yb,yq,rfl,_⟩:=oY2.seg
  go_wp2
  refine bodyPost_ret (res_cct Tryz.results153 rfl (ldChan x.1 (.slice ya x.1.cells.length yp) (.slice yb x.1.words.length yq) (by simp [go_sem, *])) rfl (ldHand x.2.1 (by simp [go_sem, *]))) rfl ⟨⟨_,_,rfl,?_,?_,fr1,fr2⟩,by exact zB⟩
  · exact zP oY1 oY1 hoff1
  · exact zP oY2 oY2 hoff2
set_option maxRecDepth 100000 in
set_option maxHeartbeats 4000000 in
/-- The park table's step. -/
theorem parkTable_via (x:St) (c:Ch) (h:Ha) (a b:Option Addr) (p q:Nat) (w:World) (h1:Seg w w.heap.size a c.cells.length 3 (cellF c.cells)) (z1:a=none→p=0) (h2:Seg w w.heap.size b c.words.length 1 (intF c.words)) (z2:b=none→q=0)
    (hs:∀ (a b:Option Addr) (p q:Nat) (w:World),Seg w w.heap.size a c.cells.length 3 (cellF c.cells)→(a=none→p=0)→Seg w w.heap.size b c.words.length 1 (intF c.words)→(b=none→q=0)→Calls Tryz.prog 160 #[.agg (cvals c (.slice a c.cells.length p) (.slice b c.words.length q)),.agg (hvals h)] w fun r w'=>StepN w w' x r) :
    Calls Tryz.prog 159 #[.agg #[],.agg (cvals c (.slice a c.cells.length p) (.slice b c.words.length q)),.agg (hvals h)] w fun r w'=>StepN w w' x r:=by
  have H1:=Lib.hid h1
  have H2:=Lib.hid h2
  have Z1:=Lib.hid z1
  have Z2:=Lib.hid z2
  have HS:=Lib.hid hs
  clear h1 h2 z1 z2 hs
  have d1:∀ j,(Value.slice none 0 0).ownBlock=some j→w.heap.size+1+1+1+1+1≤j:=fun j hj=>by cases hj
  have d2:=d1
  go_enter Tryz.func159,Tryz.ntmps159
  go_wp2_with fail;refine bHit w (by exact zB) fun bb=>?_;refine (HS.out _ _ _ _ _ ((H1.out.below bb).more bb.size) Z1.out ((H2.out.below bb).more bb.size) Z2.out).mono ?_;rintro _ w9 ⟨⟨y1,y2,rfl,oY1,oY2,fY1,fY2⟩,hbw9⟩;have hCw9:Below w.heap.size w w9:=bT bb hbw9;have hsw9:=hbw9.size;(try simp at hsw9);have zz:=And.intro (hQ hbw9 (b:=w.heap.size+1+1+1+1)) <| And.intro (hQ hbw9 (b:=w.heap.size+1+1+1)) <| And.intro (hQ hbw9 (b:=w.heap.size+1+1)) <| And.intro (hQ hbw9 (b:=w.heap.size+1)) <| hQ hbw9 (b:=w.heap.size);(try simp [go_sem] at zz);(try clear z_wpppp x_wpppp f_wpppp l_wpppp);(try clear z_wppp x_wppp f_wppp l_wppp);(try clear z_wpp x_wpp f_wpp l_wpp);(try clear z_wp x_wp f_wp l_wp);(try clear z_w x_w f_w l_w);obtain ⟨z_wpppp,z_wppp,z_wpp,z_wp,z_w⟩:=zz;obtain ⟨x_wpppp,f_wpppp,l_wpppp⟩:=bO z_wpppp;obtain ⟨x_wppp,f_wppp,l_wppp⟩:=bO z_wppp;obtain ⟨x_wpp,f_wpp,l_wpp⟩:=bO z_wpp;obtain ⟨x_wp,f_wp,l_wp⟩:=bO z_wp;obtain ⟨x_w,f_w,l_w⟩:=bO z_w;clear hbw9 bb
  replace oY1:OCells w9 w.heap.size y1 x.1.cells:=own_lo oY1 (by simp;omega)
  replace oY2:OInts w9 w.heap.size y2 x.1.words:=own_lo oY2 (by simp;omega)
  have hoff1:∀ j,w.heap.size≤j→j<w.heap.size+1+1+1+1+1→y1.ownBlock≠some j:=fun j _ h2=>fY1.off2 d1 h2 (by (try simp) <;> omega);have hoff2:∀ j,w.heap.size≤j→j<w.heap.size+1+1+1+1+1→y2.ownBlock≠some j:=fun j _ h2=>fY2.off2 d2 h2 (by (try simp) <;> omega);have fr1:Fresh w (.slice none 0 0) y1:=fun j hj=>.inr (fY1.up d1 (by (try simp) <;> omega) (by (try simp) <;> omega) j hj);have fr2:Fresh w (.slice none 0 0) y2:=fun j hj=>.inr (fY2.up d2 (by (try simp) <;> omega) (by (try simp) <;> omega) j hj);obtain ⟨ya,yp,rfl,_⟩:=oY1.seg;obtain ⟨yb,yq,rfl,_⟩:=oY2.seg
  go_wp2
  refine bodyPost_ret (res_cct Tryz.results159 rfl (ldChan x.1 (.slice ya x.1.cells.length yp) (.slice yb x.1.words.length yq) (by simp [go_sem, *])) rfl (ldHand x.2.1 (by simp [go_sem, *]))) rfl ⟨⟨_,_,rfl,?_,?_,fr1,fr2⟩,by exact zB⟩
  · exact zP oY1 oY1 hoff1
  · exact zP oY2 oY2 hoff2
set_option maxRecDepth 100000 in
set_option maxHeartbeats 4000000 in
theorem table_0 (n:Int) (w:World) (h:n≤0):Calls Tryz.prog 67 #[.int .i64 n] w fun r w'=>r=.returned (.iface 118 (.agg #[]))∧w'=w:=by
  go_enter Tryz.func67,Tryz.ntmps67
  go_wp2
  all_goals first|(exfalso;omega)|(go_ret;exact ⟨rfl,rfl⟩)
set_option maxRecDepth 100000 in
set_option maxHeartbeats 4000000 in
theorem table_1 (n:Int) (w:World) (h:1≤n∧n≤8):Calls Tryz.prog 67 #[.int .i64 n] w fun r w'=>r=.returned (.iface 119 (.agg #[]))∧w'=w:=by
  go_enter Tryz.func67,Tryz.ntmps67
  go_wp2
  all_goals first|(exfalso;omega)|(go_ret;exact ⟨rfl,rfl⟩)
set_option maxRecDepth 100000 in
set_option maxHeartbeats 4000000 in
theorem table_2 (n:Int) (w:World) (h:9≤n∧n≤15):Calls Tryz.prog 67 #[.int .i64 n] w fun r w'=>r=.returned (.iface 107 (.agg #[]))∧w'=w:=by
  go_enter Tryz.func67,Tryz.ntmps67
  go_wp2
  all_goals first|(exfalso;omega)|(go_ret;exact ⟨rfl,rfl⟩)
set_option maxRecDepth 100000 in
set_option maxHeartbeats 4000000 in
theorem table_3 (n:Int) (w:World) (h:16≤n∧n≤22):Calls Tryz.prog 67 #[.int .i64 n] w fun r w'=>r=.returned (.iface 108 (.agg #[]))∧w'=w:=by
  go_enter Tryz.func67,Tryz.ntmps67
  go_wp2
  all_goals first|(exfalso;omega)|(go_ret;exact ⟨rfl,rfl⟩)
set_option maxRecDepth 100000 in
set_option maxHeartbeats 4000000 in
theorem table_4 (n:Int) (w:World) (h:23≤n∧n≤25):Calls Tryz.prog 67 #[.int .i64 n] w fun r w'=>r=.returned (.iface 109 (.agg #[]))∧w'=w:=by
  go_enter Tryz.func67,Tryz.ntmps67
  go_wp2
  all_goals first|(exfalso;omega)|(go_ret;exact ⟨rfl,rfl⟩)
set_option maxRecDepth 100000 in
set_option maxHeartbeats 4000000 in
theorem table_5 (n:Int) (w:World) (h:26≤n):Calls Tryz.prog 67 #[.int .i64 n] w fun r w'=>r=.returned (.iface 118 (.agg #[]))∧w'=w:=by
  go_enter Tryz.func67,Tryz.ntmps67
  go_wp2
  all_goals first|(exfalso;omega)|(go_ret;exact ⟨rfl,rfl⟩)
theorem as_recv_recv (w:World):(Instr.typeAssert (.iface 107 (.agg #[])) 104 107 true).run Tryz.prog w=.ok (.tuple #[.agg #[],.bool true]) w:=by kernel_rfl
theorem as_recv_grow (w:World):(Instr.typeAssert (.iface 107 (.agg #[])) 104 108 true).run Tryz.prog w=.ok (.tuple #[.agg #[],.bool false]) w:=by kernel_rfl
theorem as_recv_park (w:World):(Instr.typeAssert (.iface 107 (.agg #[])) 104 109 true).run Tryz.prog w=.ok (.tuple #[.agg #[],.bool false]) w:=by kernel_rfl
theorem as_grow_recv (w:World):(Instr.typeAssert (.iface 108 (.agg #[])) 104 107 true).run Tryz.prog w=.ok (.tuple #[.agg #[],.bool false]) w:=by kernel_rfl
theorem as_grow_grow (w:World):(Instr.typeAssert (.iface 108 (.agg #[])) 104 108 true).run Tryz.prog w=.ok (.tuple #[.agg #[],.bool true]) w:=by kernel_rfl
theorem as_grow_park (w:World):(Instr.typeAssert (.iface 108 (.agg #[])) 104 109 true).run Tryz.prog w=.ok (.tuple #[.agg #[],.bool false]) w:=by kernel_rfl
theorem as_park_recv (w:World):(Instr.typeAssert (.iface 109 (.agg #[])) 104 107 true).run Tryz.prog w=.ok (.tuple #[.agg #[],.bool false]) w:=by kernel_rfl
theorem as_park_grow (w:World):(Instr.typeAssert (.iface 109 (.agg #[])) 104 108 true).run Tryz.prog w=.ok (.tuple #[.agg #[],.bool false]) w:=by kernel_rfl
theorem as_park_park (w:World):(Instr.typeAssert (.iface 109 (.agg #[])) 104 109 true).run Tryz.prog w=.ok (.tuple #[.agg #[],.bool true]) w:=by kernel_rfl
theorem as_send_recv (w:World):(Instr.typeAssert (.iface 119 (.agg #[])) 104 107 true).run Tryz.prog w=.ok (.tuple #[.agg #[],.bool false]) w:=by kernel_rfl
theorem as_send_grow (w:World):(Instr.typeAssert (.iface 119 (.agg #[])) 104 108 true).run Tryz.prog w=.ok (.tuple #[.agg #[],.bool false]) w:=by kernel_rfl
theorem as_send_park (w:World):(Instr.typeAssert (.iface 119 (.agg #[])) 104 109 true).run Tryz.prog w=.ok (.tuple #[.agg #[],.bool false]) w:=by kernel_rfl
theorem as_no_recv (w:World):(Instr.typeAssert (.iface 118 (.agg #[])) 104 107 true).run Tryz.prog w=.ok (.tuple #[.agg #[],.bool false]) w:=by kernel_rfl
theorem as_no_grow (w:World):(Instr.typeAssert (.iface 118 (.agg #[])) 104 108 true).run Tryz.prog w=.ok (.tuple #[.agg #[],.bool false]) w:=by kernel_rfl
theorem as_no_park (w:World):(Instr.typeAssert (.iface 118 (.agg #[])) 104 109 true).run Tryz.prog w=.ok (.tuple #[.agg #[],.bool false]) w:=by kernel_rfl
theorem me_recv (n : Nat) (w : World) : (method (n + 1) 107 (.agg #[]) "loop.example/g00794/impl.step").run Tryz.prog w = .ok (125, .agg #[]) w := by kernel_rfl
theorem me_grow (n : Nat) (w : World) : (method (n + 1) 108 (.agg #[]) "loop.example/g00794/impl.step").run Tryz.prog w = .ok (153, .agg #[]) w := by kernel_rfl
theorem me_park (n : Nat) (w : World) : (method (n + 1) 109 (.agg #[]) "loop.example/g00794/impl.step").run Tryz.prog w = .ok (159, .agg #[]) w := by kernel_rfl
set_option maxRecDepth 100000 in
set_option maxHeartbeats 4000000 in
theorem iStays_recv (x:St) (c:Ch) (h:Ha) (a b:Option Addr) (p q:Nat) (w:World) (h1:Seg w w.heap.size a c.cells.length 3 (cellF c.cells)) (z1:a=none→p=0) (h2:Seg w w.heap.size b c.words.length 1 (intF c.words)) (z2:b=none→q=0)
    (hs:∀ (a b:Option Addr) (p q:Nat) (w:World),Seg w w.heap.size a c.cells.length 3 (cellF c.cells)→(a=none→p=0)→Seg w w.heap.size b c.words.length 1 (intF c.words)→(b=none→q=0)→Calls Tryz.prog 126 #[.agg (cvals c (.slice a c.cells.length p) (.slice b c.words.length q)),.agg (hvals h)] w fun r w'=>StepN w w' x r) (hp:9≤h.pos∧h.pos≤15) :
    Calls Tryz.prog 48 #[.agg (cvals c (.slice a c.cells.length p) (.slice b c.words.length q)),.agg (hvals h)] w fun r w'=>r=.returned (.bool (!x.2.2 && eqHa x.2.1 h))∧Below w.heap.size w w':=by
  have hT:=fun a b p q w h1 z1 h2 z2=>recvTable_via x c h a b p q w h1 z1 h2 z2 hs
  replace hs:=hT
  clear hT
  have H1:=Lib.hid h1
  have H2:=Lib.hid h2
  have Z1:=Lib.hid z1
  have Z2:=Lib.hid z2
  have HS:=Lib.hid hs
  clear h1 h2 z1 z2 hs
  go_enter Tryz.func48,Tryz.ntmps48
  go_wp2_with fail
  refine (table_2 h.pos _ hp).mono ?_
  rintro _ _ ⟨rfl,rfl⟩
  have q1:=as_recv_recv
  have q2:=as_recv_grow
  have q3:=as_recv_park
  have q4:=me_recv
  go_wp2_with fail
  refine bHit w (by exact zB) fun bb=>?_
  refine (HS.out _ _ _ _ _ ((H1.out.below bb).more bb.size) Z1.out ((H2.out.below bb).more bb.size) Z2.out).mono ?_
  rintro _ w9 ⟨⟨y1,y2,rfl,oY1,oY2,fY1,fY2⟩,hbw9⟩
  have hB9:Below w.heap.size w w9:=bT bb hbw9
  have hsw9:=hbw9.size;(try simp at hsw9);have zz:=And.intro (hQ hbw9 (b:=w.heap.size+1)) <| hQ hbw9 (b:=w.heap.size);(try simp [go_sem] at zz);(try clear z_wp x_wp f_wp l_wp);(try clear z_w x_w f_w l_w);obtain ⟨z_wp,z_w⟩:=zz;obtain ⟨x_wp,f_wp,l_wp⟩:=bO z_wp;obtain ⟨x_w,f_w,l_w⟩:=bO z_w;clear hbw9
  obtain ⟨ya,yp,rfl,_⟩:=oY1.seg
  obtain ⟨yb,yq,rfl,_⟩:=oY2.seg
  clear oY1 oY2 fY1 fY2 bb
  have ee:=eqHandV x.2.1 h
  cases hx:x.2.2 with
  | true =>
    go_wp2
    go_ret
    exact ⟨by simp [hx],by exact zB⟩
  | false =>
    go_wp2
    go_ret
    exact ⟨by simp [hx],by exact zB⟩
set_option maxRecDepth 100000 in
set_option maxHeartbeats 4000000 in
theorem iStays_grow (x:St) (c:Ch) (h:Ha) (a b:Option Addr) (p q:Nat) (w:World) (h1:Seg w w.heap.size a c.cells.length 3 (cellF c.cells)) (z1:a=none→p=0) (h2:Seg w w.heap.size b c.words.length 1 (intF c.words)) (z2:b=none→q=0)
    (hs:∀ (a b:Option Addr) (p q:Nat) (w:World),Seg w w.heap.size a c.cells.length 3 (cellF c.cells)→(a=none→p=0)→Seg w w.heap.size b c.words.length 1 (intF c.words)→(b=none→q=0)→Calls Tryz.prog 154 #[.agg (cvals c (.slice a c.cells.length p) (.slice b c.words.length q)),.agg (hvals h)] w fun r w'=>StepN w w' x r) (hp:16≤h.pos∧h.pos≤22) :
    Calls Tryz.prog 48 #[.agg (cvals c (.slice a c.cells.length p) (.slice b c.words.length q)),.agg (hvals h)] w fun r w'=>r=.returned (.bool (!x.2.2 && eqHa x.2.1 h))∧Below w.heap.size w w':=by
  have hT:=fun a b p q w h1 z1 h2 z2=>growTable_via x c h a b p q w h1 z1 h2 z2 hs
  replace hs:=hT
  clear hT
  have H1:=Lib.hid h1
  have H2:=Lib.hid h2
  have Z1:=Lib.hid z1
  have Z2:=Lib.hid z2
  have HS:=Lib.hid hs
  clear h1 h2 z1 z2 hs
  go_enter Tryz.func48,Tryz.ntmps48
  go_wp2_with fail
  refine (table_3 h.pos _ hp).mono ?_
  rintro _ _ ⟨rfl,rfl⟩
  have q1:=as_grow_recv
  have q2:=as_grow_grow
  have q3:=as_grow_park
  have q4:=me_grow
  go_wp2_with fail
  refine bHit w (by exact zB) fun bb=>?_
  refine (HS.out _ _ _ _ _ ((H1.out.below bb).more bb.size) Z1.out ((H2.out.below bb).more bb.size) Z2.out).mono ?_
  rintro _ w9 ⟨⟨y1,y2,rfl,oY1,oY2,fY1,fY2⟩,hbw9⟩
  have hB9:Below w.heap.size w w9:=bT bb hbw9
  have hsw9:=hbw9.size;(try simp at hsw9);have zz:=And.intro (hQ hbw9 (b:=w.heap.size+1)) <| hQ hbw9 (b:=w.heap.size);(try simp [go_sem] at zz);(try clear z_wp x_wp f_wp l_wp);(try clear z_w x_w f_w l_w);obtain ⟨z_wp,z_w⟩:=zz;obtain ⟨x_wp,f_wp,l_wp⟩:=bO z_wp;obtain ⟨x_w,f_w,l_w⟩:=bO z_w;clear hbw9
  obtain ⟨ya,yp,rfl,_⟩:=oY1.seg
  obtain ⟨yb,yq,rfl,_⟩:=oY2.seg
  clear oY1 oY2 fY1 fY2 bb
  have ee:=eqHandV x.2.1 h
  cases hx:x.2.2 with
  | true =>
    go_wp2
    go_ret
    exact ⟨by simp [hx],by exact zB⟩
  | false =>
    go_wp2
    go_ret
    exact ⟨by simp [hx],by exact zB⟩
set_option maxRecDepth 100000 in
set_option maxHeartbeats 4000000 in
theorem iStays_park (x:St) (c:Ch) (h:Ha) (a b:Option Addr) (p q:Nat) (w:World) (h1:Seg w w.heap.size a c.cells.length 3 (cellF c.cells)) (z1:a=none→p=0) (h2:Seg w w.heap.size b c.words.length 1 (intF c.words)) (z2:b=none→q=0)
    (hs:∀ (a b:Option Addr) (p q:Nat) (w:World),Seg w w.heap.size a c.cells.length 3 (cellF c.cells)→(a=none→p=0)→Seg w w.heap.size b c.words.length 1 (intF c.words)→(b=none→q=0)→Calls Tryz.prog 160 #[.agg (cvals c (.slice a c.cells.length p) (.slice b c.words.length q)),.agg (hvals h)] w fun r w'=>StepN w w' x r) (hp:23≤h.pos∧h.pos≤25) :
    Calls Tryz.prog 48 #[.agg (cvals c (.slice a c.cells.length p) (.slice b c.words.length q)),.agg (hvals h)] w fun r w'=>r=.returned (.bool (!x.2.2 && eqHa x.2.1 h))∧Below w.heap.size w w':=by
  have hT:=fun a b p q w h1 z1 h2 z2=>parkTable_via x c h a b p q w h1 z1 h2 z2 hs
  replace hs:=hT
  clear hT
  have H1:=Lib.hid h1
  have H2:=Lib.hid h2
  have Z1:=Lib.hid z1
  have Z2:=Lib.hid z2
  have HS:=Lib.hid hs
  clear h1 h2 z1 z2 hs
  go_enter Tryz.func48,Tryz.ntmps48
  go_wp2_with fail
  refine (table_4 h.pos _ hp).mono ?_
  rintro _ _ ⟨rfl,rfl⟩
  have q1:=as_park_recv
  have q2:=as_park_grow
  have q3:=as_park_park
  have q4:=me_park
  go_wp2_with fail
  refine bHit w (by exact zB) fun bb=>?_
  refine (HS.out _ _ _ _ _ ((H1.out.below bb).more bb.size) Z1.out ((H2.out.below bb).more bb.size) Z2.out).mono ?_
  rintro _ w9 ⟨⟨y1,y2,rfl,oY1,oY2,fY1,fY2⟩,hbw9⟩
  have hB9:Below w.heap.size w w9:=bT bb hbw9
  have hsw9:=hbw9.size;(try simp at hsw9);have zz:=And.intro (hQ hbw9 (b:=w.heap.size+1)) <| hQ hbw9 (b:=w.heap.size);(try simp [go_sem] at zz);(try clear z_wp x_wp f_wp l_wp);(try clear z_w x_w f_w l_w);obtain ⟨z_wp,z_w⟩:=zz;obtain ⟨x_wp,f_wp,l_wp⟩:=bO z_wp;obtain ⟨x_w,f_w,l_w⟩:=bO z_w;clear hbw9
  obtain ⟨ya,yp,rfl,_⟩:=oY1.seg
  obtain ⟨yb,yq,rfl,_⟩:=oY2.seg
  clear oY1 oY2 fY1 fY2 bb
  have ee:=eqHandV x.2.1 h
  cases hx:x.2.2 with
  | true =>
    go_wp2
    go_ret
    exact ⟨by simp [hx],by exact zB⟩
  | false =>
    go_wp2
    go_ret
    exact ⟨by simp [hx],by exact zB⟩
set_option maxRecDepth 100000 in
set_option maxHeartbeats 4000000 in
theorem iStays_low0 (c:Ch) (h:Ha) (a b:Option Addr) (p q:Nat) (w:World) (hp:h.pos≤0) :
    Calls Tryz.prog 48 #[.agg (cvals c (.slice a c.cells.length p) (.slice b c.words.length q)),.agg (hvals h)] w fun r w'=>r=.returned (.bool false)∧Below w.heap.size w w':=by
  go_enter Tryz.func48,Tryz.ntmps48
  go_wp2_with fail
  refine (table_0 h.pos _ hp).mono ?_
  rintro _ _ ⟨rfl,rfl⟩
  have q1:=as_no_recv
  have q2:=as_no_grow
  have q3:=as_no_park
  go_wp2
  go_ret
  exact ⟨rfl,by exact zB⟩
set_option maxRecDepth 100000 in
set_option maxHeartbeats 4000000 in
theorem iStays_low1 (c:Ch) (h:Ha) (a b:Option Addr) (p q:Nat) (w:World) (hp:1≤h.pos∧h.pos≤8) :
    Calls Tryz.prog 48 #[.agg (cvals c (.slice a c.cells.length p) (.slice b c.words.length q)),.agg (hvals h)] w fun r w'=>r=.returned (.bool false)∧Below w.heap.size w w':=by
  go_enter Tryz.func48,Tryz.ntmps48
  go_wp2_with fail
  refine (table_1 h.pos _ hp).mono ?_
  rintro _ _ ⟨rfl,rfl⟩
  have q1:=as_send_recv
  have q2:=as_send_grow
  have q3:=as_send_park
  go_wp2
  go_ret
  exact ⟨rfl,by exact zB⟩
set_option maxRecDepth 100000 in
set_option maxHeartbeats 4000000 in
theorem iStays_low5 (c:Ch) (h:Ha) (a b:Option Addr) (p q:Nat) (w:World) (hp:26≤h.pos) :
    Calls Tryz.prog 48 #[.agg (cvals c (.slice a c.cells.length p) (.slice b c.words.length q)),.agg (hvals h)] w fun r w'=>r=.returned (.bool false)∧Below w.heap.size w w':=by
  go_enter Tryz.func48,Tryz.ntmps48
  go_wp2_with fail
  refine (table_5 h.pos _ hp).mono ?_
  rintro _ _ ⟨rfl,rfl⟩
  have q1:=as_no_recv
  have q2:=as_no_grow
  have q3:=as_no_park
  go_wp2
  go_ret
  exact ⟨rfl,by exact zB⟩
end Go.Proofs.YtmnpgkcdfielbaaGreat
set_option linter.unusedSimpArgs false
set_option linter.unusedVariables false
namespace Go.Proofs.YtmnpgkcdfielbaaGreat
theorem kA {x0 a b:Prop} (f:a→b) (h:x0∧a):x0∧b:=⟨h.1,f h.2⟩
theorem kB {x0 x1 a b:Prop} (f:a→b) (h:x0∧x1∧a):x0∧x1∧b:=⟨h.1,h.2.1,f h.2.2⟩
theorem kC {x0 x1 x2 x3 a b:Prop} (f:a→b) (h:x0∧x1∧x2∧x3∧a):x0∧x1∧x2∧x3∧b:=⟨h.1,h.2.1,h.2.2.1,h.2.2.2.1,f h.2.2.2.2⟩
theorem kD {x0 x1 x2 x3 x4 x5 x6 x7 a b:Prop} (f:a→b) (h:x0∧x1∧x2∧x3∧x4∧x5∧x6∧x7∧a):x0∧x1∧x2∧x3∧x4∧x5∧x6∧x7∧b:=⟨h.1,h.2.1,h.2.2.1,h.2.2.2.1,h.2.2.2.2.1,h.2.2.2.2.2.1,h.2.2.2.2.2.2.1,h.2.2.2.2.2.2.2.1,f h.2.2.2.2.2.2.2.2⟩
theorem kE {x0 x1 x2 x3 x4 x5 x6 x7 x8 x9 x10 x11 x12 x13 x14 x15 a b:Prop} (f:a→b) (h:x0∧x1∧x2∧x3∧x4∧x5∧x6∧x7∧x8∧x9∧x10∧x11∧x12∧x13∧x14∧x15∧a):x0∧x1∧x2∧x3∧x4∧x5∧x6∧x7∧x8∧x9∧x10∧x11∧x12∧x13∧x14∧x15∧b:=⟨h.1,h.2.1,h.2.2.1,h.2.2.2.1,h.2.2.2.2.1,h.2.2.2.2.2.1,h.2.2.2.2.2.2.1,h.2.2.2.2.2.2.2.1,h.2.2.2.2.2.2.2.2.1,h.2.2.2.2.2.2.2.2.2.1,h.2.2.2.2.2.2.2.2.2.2.1,h.2.2.2.2.2.2.2.2.2.2.2.1,h.2.2.2.2.2.2.2.2.2.2.2.2.1,h.2.2.2.2.2.2.2.2.2.2.2.2.2.1,h.2.2.2.2.2.2.2.2.2.2.2.2.2.2.1,h.2.2.2.2.2.2.2.2.2.2.2.2.2.2.2.1,f h.2.2.2.2.2.2.2.2.2.2.2.2.2.2.2.2⟩
theorem jC {x0 x1 x2 x3 a:Prop} (h:x0∧x1∧x2∧x3∧a):a:=h.2.2.2.2
theorem jD {x0 x1 x2 x3 x4 x5 x6 x7 a:Prop} (h:x0∧x1∧x2∧x3∧x4∧x5∧x6∧x7∧a):a:=h.2.2.2.2.2.2.2.2
theorem jE {x0 x1 x2 x3 x4 x5 x6 x7 x8 x9 x10 x11 x12 x13 x14 x15 a:Prop} (h:x0∧x1∧x2∧x3∧x4∧x5∧x6∧x7∧x8∧x9∧x10∧x11∧x12∧x13∧x14∧x15∧a):a:=h.2.2.2.2.2.2.2.2.2.2.2.2.2.2.2.2
theorem kX {a b c d:Prop} (x:c) (f:a→b) (h:d∧a):c∧b:=⟨x,f h.2⟩
theorem nB {P:Prop} (h:false=true):P:=by cases h
def qB (l:List Nat):List Nat:=0 :: 1 :: 2 :: 3 :: 4 :: 5 :: 6 :: 7 :: l
def qC (l:List Nat):List Nat:=0 :: 1 :: 2 :: 3 :: 4 :: 5 :: 6 :: 7 :: 8 :: 9 :: 10 :: 11 :: 12 :: 13 :: 14 :: 15 :: l
def qD (l:List Nat):List Nat:=0 :: 1 :: 2 :: 3 :: 4 :: 5 :: 6 :: 7 :: 8 :: 9 :: 10 :: 11 :: 12 :: 13 :: 14 :: 15 :: 16 :: 17 :: 18 :: 19 :: 20 :: 21 :: 22 :: 23 :: l
def qE (l:List Nat):List Nat:=0 :: 1 :: 2 :: 3 :: 4 :: 5 :: 6 :: 7 :: 8 :: 9 :: 10 :: 11 :: 12 :: 13 :: 14 :: 15 :: 16 :: 17 :: 18 :: 19 :: 20 :: 21 :: 22 :: 23 :: 24 :: 25 :: 26 :: 27 :: 28 :: 29 :: 30 :: 31 :: l
end Go.Proofs.YtmnpgkcdfielbaaGreat
set_option linter.unusedSimpArgs false
set_option linter.unusedVariables false
namespace Go.Proofs.YtmnpgkcdfielbaaGreat
open Go.RowKit
set_option maxHeartbeats 400000 in
theorem inRange_any (n m:Int) (w:World):Calls Tryz.prog 44 #[.int .i64 n,.int .i64 m] w fun e w'=>e=.returned (.bool (inB n 0 m))∧w=w':=by
  go_enter Tryz.func44,Tryz.ntmps44
  go_wp2
  all_goals go_ret
  · exact ⟨ret_bool (inB_lo ‹_›),rfl⟩
  · exact ⟨ret_bool (inB_no (.inl ‹_›)).symm,rfl⟩
def Named (n:Int) (e:Ending):Prop:=∃ s:ByteArray,e=.returned (.string s)∧s.toList.isEmpty=!(inB n 0 10)
theorem named_yes {n:Int} (s:ByteArray) (hs:s.data.size≠0) (h1:0≤n) (h2:n≤10):Named n (.returned (.string s)):=⟨_,rfl,by
  obtain ⟨⟨l⟩⟩:=s
  rw [inB_yes h1 h2]
  cases l with
  | nil=>simp at hs
  | cons a l=>simp⟩
theorem named_no {n:Int} (h:n<0∨10<n):Named n (.returned (.string ⟨#[]⟩)):=⟨_,rfl,by rw [inB_no h];simp⟩
set_option maxHeartbeats 400000 in
theorem string_any (n:Int) (w:World):Calls Tryz.prog 101 #[.int .i64 n] w fun e w'=>Named n e∧w=w':=by
  by_cases h:0≤n∧n≤10
  · have hn:n=0∨n=1∨n=2∨n=3∨n=4∨n=5∨n=6∨n=7∨n=8∨n=9∨n=10:=by omega
    clear h
    rcases hn with rfl|rfl|rfl|rfl|rfl|rfl|rfl|rfl|rfl|rfl|rfl
    all_goals
      go_enter Tryz.func101,Tryz.ntmps101
      go_wp2
      go_ret
      exact ⟨named_yes _ (by decide) (by omega) (by omega),rfl⟩
  · have h0:(n == 0)=false:=by simp;omega
    have h1:(n == 1)=false:=by simp;omega
    have h2:(n == 2)=false:=by simp;omega
    have h3:(n == 3)=false:=by simp;omega
    have h4:(n == 4)=false:=by simp;omega
    have h5:(n == 5)=false:=by simp;omega
    have h6:(n == 6)=false:=by simp;omega
    have h7:(n == 7)=false:=by simp;omega
    have h8:(n == 8)=false:=by simp;omega
    have h9:(n == 9)=false:=by simp;omega
    have h10:(n == 10)=false:=by simp;omega
    have H:=Lib.hid h
    clear h
    go_enter Tryz.func101,Tryz.ntmps101
    go_wp2
    go_ret
    exact ⟨named_no (by have:=H.out;omega),rfl⟩
set_option maxHeartbeats 400000 in
theorem cellOk_any (s e t:Int) (w:World):Calls Tryz.prog 74 #[.agg #[.int .i64 s,.int .i64 e,.int .i64 t]] w fun r w'=>r=.returned (.bool (cellB s e t))∧Below w.heap.size w w':=by
  go_enter Tryz.func74,Tryz.ntmps74
  go_wp2_with (first|(go_at_call 101;refine (string_any _ _).mono ?_;rintro r1 w1 ⟨⟨s1,rfl,hs⟩,rfl⟩)|(go_at_call 44;refine (inRange_any _ _ _).mono ?_;rintro _ _ ⟨rfl,rfl⟩))
  all_goals go_ret
  all_goals refine ⟨ret_bool ?_,by exact zB⟩
  · exact cellB_3 ‹_› ‹_›
  · exact cellB_2 ‹_›
  · exact cellB_1 ‹_›
end Go.Proofs.YtmnpgkcdfielbaaGreat
