/-
  Hands and channels of the program, loaded and stored whole; no condition.
  The laws' own toCall, toHand, eqCall, eqHand; no condition.
  What the document's steps of chapters 6 to 10 compute, as plain functions on numbers and lists; no condition.
-/
import Derived.Test.YtmnpgkcdfielbaaP04
set_option linter.unusedSimpArgs false
set_option linter.unusedVariables false
namespace Go.Proofs.Ytmnpgkcdfielbaa
open Go.RowKit
theorem infoHand:(Try.prog.info? 53).map (fun i=>(i.zero,i.size,i.bytes))=some (some (.agg (hvals Ha.zero)),14,112):=by kernel_rfl
theorem infoChan:(Try.prog.info? 33).map (fun i=>(i.zero,i.size,i.bytes))=some (some (.agg (cvals Ch.zero (.slice none 0 0) (.slice none 0 0))),6,80):=by kernel_rfl
theorem zeroHand (w:World):(zeroValue 53).run Try.prog w=.ok (.agg (hvals Ha.zero)) w:=by
  obtain ⟨i,hi,hz,_⟩:=info_parts infoHand
  have e:Try.prog.info? 53=some Try.t53:=by kernel_rfl
  obtain rfl:Try.t53=i:=by rw [e] at hi;exact Option.some.inj hi
  simp [zeroValue,go_sem,hz]
theorem zeroChan (w:World):(zeroValue 33).run Try.prog w=.ok (.agg (cvals Ch.zero (.slice none 0 0) (.slice none 0 0))) w:=by
  obtain ⟨i,hi,hz,_⟩:=info_parts infoChan
  have e:Try.prog.info? 33=some Try.t33:=by kernel_rfl
  obtain rfl:Try.t33=i:=by rw [e] at hi;exact Option.some.inj hi
  simp [zeroValue,go_sem,hz]
theorem aggHand (w:World):(isAgg 53).run Try.prog w=.ok true w:=by simp [isAgg,go_sem]
theorem aggChan (w:World):(isAgg 33).run Try.prog w=.ok true w:=by simp [isAgg,go_sem]
theorem szHand (w:World):(sizeOf 53).run Try.prog w=.ok 14 w:=by simp [go_sem]
theorem szChanT (w:World):(sizeOf 33).run Try.prog w=.ok 6 w:=by simp [go_sem]
variable {w:World} {b:Nat}
theorem loadHandV (h:okO 14 (hp w b)=true):(loadVar 53 ⟨b,0,none⟩).run Try.prog w=.ok (.agg (cellsO (hp w b))) w:=load_box aggHand szHand h
theorem loadChanV (h:okO 6 (hp w b)=true):(loadVar 33 ⟨b,0,none⟩).run Try.prog w=.ok (.agg (cellsO (hp w b))) w:=load_box aggChan szChanT h
theorem loadHand (h:okO 14 (hp w b)=true):(Instr.loadAt 53 (.pointer (some ⟨b,0,none⟩))).run Try.prog w=.ok (.agg (cellsO (hp w b))) w:=by
  simp only [Instr.loadAt,Instr.sureAddr,Sem.run_bind,Sem.run_pure,Result.andThen_ok,loadHandV h]
theorem loadChan (h:okO 6 (hp w b)=true):(Instr.loadAt 33 (.pointer (some ⟨b,0,none⟩))).run Try.prog w=.ok (.agg (cellsO (hp w b))) w:=by
  simp only [Instr.loadAt,Instr.sureAddr,Sem.run_bind,Sem.run_pure,Result.andThen_ok,loadChanV h]
theorem storeHand (x:Ha) (h:okO 14 (hp w b)=true):(Instr.storeAt 53 (.pointer (some ⟨b,0,none⟩)) (.agg (hvals x))).run Try.prog w=.ok () (setBox w b (hvals x)):=by
  simp only [Instr.storeAt,Instr.sureAddr,Sem.run_bind,Sem.run_pure,Result.andThen_ok]
  exact store_box szHand h rfl (by simp [hvals,Value.oneCell'])
theorem storeChan (c:Ch) (x y:Option Addr) (n p m q:Nat) (h:okO 6 (hp w b)=true):(Instr.storeAt 33 (.pointer (some ⟨b,0,none⟩)) (.agg (cvals c (.slice x n p) (.slice y m q)))).run Try.prog w=.ok () (setBox w b (cvals c (.slice x n p) (.slice y m q))):=by
  simp only [Instr.storeAt,Instr.sureAddr,Sem.run_bind,Sem.run_pure,Result.andThen_ok]
  exact store_box szChanT h rfl (by simp [cvals,Value.oneCell'])
theorem storeHandC (x:Ha) (h:okO 14 (hp w b)=true):(storeCells ⟨b,0,none⟩ (hvals x).toList).run Try.prog w=.ok () (setBox w b (hvals x)):=store_cells h rfl (by simp [hvals,Value.oneCell'])
theorem storeChanC (c:Ch) (x y:Option Addr) (n p m q:Nat) (h:okO 6 (hp w b)=true):(storeCells ⟨b,0,none⟩ (cvals c (.slice x n p) (.slice y m q)).toList).run Try.prog w=.ok () (setBox w b (cvals c (.slice x n p) (.slice y m q))):=store_cells h rfl (by simp [cvals,Value.oneCell'])
/-- Loading whole, as one word. -/
def LHand (x:Value):Sem Value:=Instr.loadAt 53 x
def VHand (x:Addr):Sem Value:=loadVar 53 x
theorem toLHand (x:Value):Instr.loadAt 53 x=LHand x:=by unfold LHand;simp
theorem toVHand (x:Addr):loadVar 53 x=VHand x:=by unfold VHand;simp
theorem runLHand (h:okO 14 (hp w b)=true):(LHand (.pointer (some ⟨b,0,none⟩))).run Try.prog w=.ok (.agg (cellsO (hp w b))) w:=loadHand h
theorem runVHand (h:okO 14 (hp w b)=true):(VHand ⟨b,0,none⟩).run Try.prog w=.ok (.agg (cellsO (hp w b))) w:=loadHandV h
/-- Loading whole, as one word. -/
def LChan (x:Value):Sem Value:=Instr.loadAt 33 x
def VChan (x:Addr):Sem Value:=loadVar 33 x
theorem toLChan (x:Value):Instr.loadAt 33 x=LChan x:=by unfold LChan;simp
theorem toVChan (x:Addr):loadVar 33 x=VChan x:=by unfold VChan;simp
theorem runLChan (h:okO 6 (hp w b)=true):(LChan (.pointer (some ⟨b,0,none⟩))).run Try.prog w=.ok (.agg (cellsO (hp w b))) w:=loadChan h
theorem runVChan (h:okO 6 (hp w b)=true):(VChan ⟨b,0,none⟩).run Try.prog w=.ok (.agg (cellsO (hp w b))) w:=loadChanV h
theorem ldHand (x:Ha) (h:hp w b=some (.cells (hvals x) 53)):(loadVar 53 ⟨b,0,none⟩).run Try.prog w=.ok (.agg (hvals x)) w:=by
  have:=loadHandV (w:=w) (b:=b) (by rw [h];simp [okO,hv_size])
  rw [h] at this
  exact this
attribute [go_sem] runLHand runVHand bx_size bx_heap_at bx_heap_lt bx_heap_gt bx_cell_at bx_cell_lt bx_cell_gt bx_frozen bx_alloc_at bx_alloc_past bx_twice bx_setCell bx_drew hp_drew hp_alloc_at hp_alloc_past hp_set_at hp_set_lt hp_set_gt okO_cells cellsO_cells setBoxO_cells setCellO_cells Option.map_some lt_2 lt_3 lt_4 lt_5 hv_ne hv_size hv_get0 hv_set0 hv_get1 hv_set1 hv_get2 hv_set2 hv_get3 hv_set3 hv_get4 hv_set4 hv_get5 hv_set5 hv_get6 hv_set6 hv_get7 hv_set7 hv_get8 hv_set8 hv_get9 hv_set9 hv_get10 hv_set10 hv_get11 hv_set11 hv_get12 hv_set12 hv_get13 hv_set13
attribute [go_sem] runLChan runVChan cv_ne cv_size cv_get0 cv_set0 cv_get1 cv_set1 cv_get2 cv_set2 cv_get3 cv_set3 cv_get4 cv_set4 cv_get5 cv_set5
end Go.Proofs.Ytmnpgkcdfielbaa
set_option linter.unusedSimpArgs false
set_option linter.unusedVariables false
namespace Go.Proofs.Ytmnpgkcdfielbaa
open Go.RowKit
theorem aggHandL (w:World):(isAgg 84).run Try.prog w=.ok true w:=by simp [isAgg,go_sem]
theorem szHandL (w:World):(sizeOf 84).run Try.prog w=.ok 14 w:=by simp [go_sem]
theorem loadHandVL {w:World} {b:Nat} (h:okO 14 (hp w b)=true):(loadVar 84 ⟨b,0,none⟩).run Try.prog w=.ok (.agg (cellsO (hp w b))) w:=load_box aggHandL szHandL h
theorem loadHandL {w:World} {b:Nat} (h:okO 14 (hp w b)=true):(Instr.loadAt 84 (.pointer (some ⟨b,0,none⟩))).run Try.prog w=.ok (.agg (cellsO (hp w b))) w:=by
  simp only [Instr.loadAt,Instr.sureAddr,Sem.run_bind,Sem.run_pure,Result.andThen_ok,loadHandVL h]
/-- Loading whole, as one word: a hand of the laws. -/
def LHandL (x:Value):Sem Value:=Instr.loadAt 84 x
theorem toLHandL (x:Value):Instr.loadAt 84 x=LHandL x:=by unfold LHandL;simp
theorem runLHandL {w:World} {b:Nat} (h:okO 14 (hp w b)=true):(LHandL (.pointer (some ⟨b,0,none⟩))).run Try.prog w=.ok (.agg (cellsO (hp w b))) w:=loadHandL h
theorem aggChanL (w:World):(isAgg 25).run Try.prog w=.ok true w:=by simp [isAgg,go_sem]
theorem szChanL (w:World):(sizeOf 25).run Try.prog w=.ok 6 w:=by simp [go_sem]
theorem loadChanVL {w:World} {b:Nat} (h:okO 6 (hp w b)=true):(loadVar 25 ⟨b,0,none⟩).run Try.prog w=.ok (.agg (cellsO (hp w b))) w:=load_box aggChanL szChanL h
theorem loadChanL {w:World} {b:Nat} (h:okO 6 (hp w b)=true):(Instr.loadAt 25 (.pointer (some ⟨b,0,none⟩))).run Try.prog w=.ok (.agg (cellsO (hp w b))) w:=by
  simp only [Instr.loadAt,Instr.sureAddr,Sem.run_bind,Sem.run_pure,Result.andThen_ok,loadChanVL h]
/-- Loading whole, as one word: a channel of the laws. -/
def LChanL (x:Value):Sem Value:=Instr.loadAt 25 x
theorem runLChanL {w:World} {b:Nat} (h:okO 6 (hp w b)=true):(LChanL (.pointer (some ⟨b,0,none⟩))).run Try.prog w=.ok (.agg (cellsO (hp w b))) w:=loadChanL h
attribute [go_sem] runLHandL runLChanL
attribute [local go_sem ↓] zeroHand toLHand toVHand storeHand storeHandC
set_option maxHeartbeats 400000 in
theorem toCall_whole (k e:Int) (w:World):Calls Try.prog 69 #[.agg #[.int .i64 k,.int .i64 e]] w fun r w'=>r=.returned (.agg #[.int .i64 k,.int .i64 e])∧Below w.heap.size w w':=by
  go_enter Try.func69,Try.ntmps69
  go_wp2
  exact bodyPost_ret (v:=.agg #[.int .i64 k,.int .i64 e]) (by simp [results,Try.results69,go_sem, *]) rfl ⟨rfl,by exact zB⟩
set_option maxRecDepth 100000 in
set_option maxHeartbeats 1000000 in
theorem toHand_any (h:Ha) (w:World):Calls Try.prog 46 #[.agg (hvals h)] w fun r w'=>r=.returned (.agg (hvals h))∧Below w.heap.size w w':=by
  go_enter Try.func46,Try.ntmps46
  go_wp2_with fail;refine bHit w (by exact zB) fun bb=>?_;refine (toCall_whole h.code h.elem _).mono ?_;rintro _ w1 ⟨rfl,hbw1⟩;have hCw1:Below w.heap.size w w1:=bT bb hbw1;have hsw1:=hbw1.size;(try simp at hsw1);have zz:=And.intro (hQ hbw1 (b:=w.heap.size+1+1)) <| And.intro (hQ hbw1 (b:=w.heap.size+1)) <| hQ hbw1 (b:=w.heap.size);(try simp [go_sem] at zz);(try clear z_wpp x_wpp f_wpp l_wpp);(try clear z_wp x_wp f_wp l_wp);(try clear z_w x_w f_w l_w);obtain ⟨z_wpp,z_wp,z_w⟩:=zz;obtain ⟨x_wpp,f_wpp,l_wpp⟩:=bO z_wpp;obtain ⟨x_wp,f_wp,l_wp⟩:=bO z_wp;obtain ⟨x_w,f_w,l_w⟩:=bO z_w;clear hbw1 bb
  go_wp2
  exact bodyPost_ret (res_c Try.results46 rfl (ldHand h (by simp [go_sem, *] <;> rfl))) rfl ⟨rfl,by exact zB⟩
set_option maxHeartbeats 400000 in
theorem eqCall_self (k e:Int) (w:World):Calls Try.prog 80 #[.agg #[.int .i64 k,.int .i64 e],.agg #[.int .i64 k,.int .i64 e]] w fun r w'=>r=.returned (.bool true)∧Below w.heap.size w w':=by
  go_enter Try.func80,Try.ntmps80
  go_wp2
  all_goals go_ret
  exact ⟨rfl,by exact zB⟩
set_option maxRecDepth 100000 in
set_option maxHeartbeats 1000000 in
theorem eqHand_any (h:Ha) (w:World):Calls Try.prog 56 #[.agg (hvals h),.agg (hvals h)] w fun r w'=>r=.returned (.bool true)∧Below w.heap.size w w':=by
  go_enter Try.func56,Try.ntmps56
  go_wp2
  go_ret
  exact ⟨rfl,by exact zB⟩
end Go.Proofs.Ytmnpgkcdfielbaa
set_option linter.unusedSimpArgs false
set_option linter.unusedVariables false
namespace Go.Proofs.Ytmnpgkcdfielbaa
abbrev St:=Ch × Ha × Bool
def stepOk (c:Ch) (h:Ha) (f t k:Int):Bool:=chanOk c && (handOk h && (inB h.pos f t && (k == 0 || h.code == k)))
def nothing:St:=(Ch.zero,Ha.zero,false)
def done (c:Ch) (h:Ha):St:=if chanOk c && handOk h then (c,h,true) else nothing
def anew (h:Ha):Ha:=begun h.code h.elem h.beg
def cellAt (c:Ch) (i:Int):C3:=c.cells.getD i.toNat ⟨0,0,0⟩
def setAt (c:Ch) (i:Int) (x:C3):Ch:={ c with cells:=c.cells.set i.toNat x }
def stateC (c:Ch) (i st:Int):Ch:=setAt c i { cellAt c i with s:=st }
def turnX (x:C3) (f t v:Int):C3:=⟨turnS x.s x.e x.t f t v,x.e,turnW x.s x.e x.t f t v⟩
def turnXB (x:C3) (f t v:Int):Bool:=turnB x.s x.e x.t f t v
def turnC (c:Ch) (i f t v:Int):Ch:=setAt c i (turnX (cellAt c i) f t v)
def turnCB (c:Ch) (i f t v:Int):Bool:=turnXB (cellAt c i) f t v
/- Chapter 6 -/
def seenAs (h:Ha) (x:C3):Ha:={ h with seen:=x.s,wait:=x.t }
def look6 (c:Ch) (h:Ha):Ha × Bool :=
  let x:=cellAt c h.cell
  let y:=seenAs h x
  if x.s == 0 then ({ y with pos:=4 },true) else if x.s == 1 then ({ y with pos:=6 },true) else if x.s == 4 then ({ y with pos:=7 },true)
  else if x.s == 8 then (anew y,true) else if x.s == 10 then (anew y,true) else (y,false)
def call6 (c:Ch) (h:Ha):Ch × Ha:=(tellC c h.wait 1,if tellB c h.wait 1 then { h with pos:=8 } else anew h)
def wait6 (c:Ch) (h:Ha) (st th el:Int):Ch × Ha :=
  if 80≤c.words.length then (c,resting 4 0) else
  if turnCB c h.cell h.seen st (c.words.length+1) then ({ turnC c h.cell h.seen st (c.words.length+1) with words:=c.words ++ [0] },{ h with mine:=c.words.length+1,pos:=th })
  else (turnC c h.cell h.seen st (c.words.length+1),{ h with pos:=el })
def put6 (c:Ch) (h:Ha):St :=
  if h.seen != 0 && h.seen != 1 then nothing else
  if h.seen == 0 && (decide (h.come≤h.cell) && decide (h.fin≤h.cell)) then done (wait6 c h 3 23 3).1 (wait6 c h 3 23 3).2 else
  if turnCB c h.cell h.seen 2 0 then done (turnC c h.cell h.seen 2 0) (resting 1 0) else done (turnC c h.cell h.seen 2 0) { h with pos:=3 }
def send1 (c:Ch) (h:Ha):St:=if c.sent == 40 then done c (resting 4 0) else done { c with sent:=c.sent+1 } { h with cell:=c.sent,pos:=2 }
def layC (c:Ch) (i m:Int):Ch:=setAt c i { cellAt c i with e:=laidF (cellAt c i).s (cellAt c i).e (cellAt c i).t m }
def send2 (c:Ch) (h:Ha):St:=done (layC c h.cell h.elem) { h with pos:=3 }
def send3 (c:Ch) (h:Ha):St:=if (look6 c h).2 then done c (look6 c h).1 else nothing
def sendStep (c:Ch) (h:Ha):St :=
  if stepOk c h 1 8 1 then
    if h.pos == 1 then send1 c h else if h.pos == 2 then send2 c h else if h.pos == 3 then send3 c h
    else if h.pos == 4 then done c { h with fin:=c.fin,pos:=5 } else if h.pos == 5 then done c { h with come:=c.got,pos:=6 }
    else if h.pos == 6 then put6 c h else if h.pos == 7 then done (call6 c h).1 (call6 c h).2 else done (stateC c h.cell 7) (resting 1 0)
  else nothing
end Go.Proofs.Ytmnpgkcdfielbaa
