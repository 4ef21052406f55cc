/-
  What the document's steps of chapters 7 to 10 compute, as plain functions on numbers and lists; no condition.
  What the document's functions of chapters 11 and 12 compute, as plain functions on numbers and lists; no condition.
  Lists of hands and of deals in memory; no condition.
-/
import Derived.Test.YtmnpgkcdfielbaaP05
set_option linter.unusedSimpArgs false
set_option linter.unusedVariables false
namespace Go.Proofs.Ytmnpgkcdfielbaa
/- Chapter 7 -/
def viewAs (h:Ha) (x:C3):Ha:={ h with seen:=x.s,wait:=x.t,out:=x.e }
def view7 (c:Ch) (h:Ha):Ha × Bool :=
  let x:=cellAt c h.cell
  let y:=viewAs h x
  if x.s == 0 then ({ y with pos:=11 },true) else if x.s == 1 then ({ y with pos:=11 },true) else if x.s == 2 then ({ y with pos:=12 },true)
  else if x.s == 3 then ({ y with pos:=12 },true) else if x.s == 9 then (anew y,true) else (y,false)
def grow7 (h:Ha) (t:Int):Ha:={ h with nxt:=t,pos:=16 }
def turn7 (c:Ch) (h:Ha) (to wt:Int) (thn:Ha):St :=
  if turnCB c h.cell h.seen to wt then done (turnC c h.cell h.seen to wt) thn else done (turnC c h.cell h.seen to wt) { h with pos:=10 }
def then7 (h:Ha):Ha:=if h.pos == 16 then { h with nxt:=1 } else h
def take7 (c:Ch) (h:Ha):St :=
  if h.seen == 2 then turn7 c h 7 0 (grow7 h 0) else if h.seen == 3 then turn7 c h 5 h.wait { h with pos:=13 }
  else if h.seen != 0 && h.seen != 1 then nothing else if h.cell<h.come then turn7 c h 8 0 (grow7 h 2)
  else done (wait6 c h 4 16 10).1 (then7 (wait6 c h 4 16 10).2)
def recv1 (c:Ch) (h:Ha):St:=if c.got == 40 then done c (resting 4 0) else done { c with got:=c.got+1 } { h with cell:=c.got,pos:=10 }
def recv2 (c:Ch) (h:Ha):St:=if (cellAt c h.cell).s == 6 then (c,h,false) else if (view7 c h).2 then done c (view7 c h).1 else nothing
def wake7 (c:Ch) (h:Ha):St:=done (tellC c h.wait 1) { h with pos:=if tellB c h.wait 1 then 14 else 15 }
def recvStep (c:Ch) (h:Ha):St :=
  if stepOk c h 9 15 2 then
    if h.pos == 9 then recv1 c h else if h.pos == 10 then recv2 c h else if h.pos == 11 then done c { h with come:=c.sent,pos:=12 }
    else if h.pos == 12 then take7 c h else if h.pos == 13 then wake7 c h
    else if h.pos == 14 then done (stateC c h.cell 7) (grow7 h 0) else done (stateC c h.cell 9) (anew h)
  else nothing
/- Chapter 8 -/
def grown8 (h:Ha):Ha:=if h.nxt == 0 then resting 2 h.out else if h.nxt == 1 then { h with pos:=23 } else anew h
def meet8 (c:Ch) (h:Ha):Ha :=
  let x:=cellAt c h.grow
  let y:=seenAs h x
  if x.s == 0 then { y with pos:=19 } else if x.s == 3 then { y with pos:=19 } else if x.s == 9 then { y with pos:=16 } else grown8 y
def turn8 (c:Ch) (h:Ha) (to wt:Int) (thn:Ha):St :=
  if turnCB c h.grow h.seen to wt then done (turnC c h.grow h.seen to wt) thn else done (turnC c h.grow h.seen to wt) { h with pos:=18 }
def pull8 (c:Ch) (h:Ha):St:=if h.seen == 3 then turn8 c h 6 h.wait { h with pos:=20 } else if h.seen == 0 then turn8 c h 1 0 (grown8 h) else nothing
def begin8 (c:Ch) (h:Ha):Ch × Ha:=if c.cap == 0 || c.fin == 40 then (c,grown8 h) else ({ c with fin:=c.fin+1 },{ h with grow:=c.fin,pos:=17 })
def meetStep (c:Ch) (h:Ha):St:=if (cellAt c h.grow).s == 5 then (c,h,false) else done c (meet8 c h)
def raise8 (c:Ch) (h:Ha):St:=done (tellC c h.wait 1) { h with pos:=if tellB c h.wait 1 then 21 else 22 }
def growStep (c:Ch) (h:Ha):St :=
  if stepOk c h 16 22 2 then
    if h.pos == 16 then done (begin8 c h).1 (begin8 c h).2 else if h.pos == 17 then (if c.sent≤h.grow then done c (grown8 h) else done c { h with pos:=18 })
    else if h.pos == 18 then meetStep c h else if h.pos == 19 then pull8 c h else if h.pos == 20 then raise8 c h
    else if h.pos == 21 then done (stateC c h.grow 2) (grown8 h) else done (stateC c h.grow 9) { h with pos:=16 }
  else nothing
/- Chapters 9 and 10 -/
def park9 (c:Ch) (h:Ha):St :=
  if wordAt c h.mine == 0 then (c,h,false) else if wordAt c h.mine == 2 then done c { h with pos:=25 }
  else if h.code == 1 then done c (resting 1 0) else done c { h with pos:=24 }
def goneS (h:Ha):Int:=if h.code == 1 then 9 else 10
def parkStep (c:Ch) (h:Ha):St :=
  if stepOk c h 23 25 0 && (hasW c h.mine && !(h.pos == 24 && h.code == 1)) then
    if h.pos == 23 then park9 c h else if h.pos == 24 then done c (resting 2 (cellAt c h.cell).e) else done (stateC c h.cell (goneS h)) (resting 3 0)
  else nothing
def stepC (c:Ch) (h:Ha):St :=
  if inB h.pos 1 8 then sendStep c h else if inB h.pos 9 15 then recvStep c h else if inB h.pos 16 22 then growStep c h else parkStep c h
end Go.Proofs.Ytmnpgkcdfielbaa
set_option linter.unusedSimpArgs false
set_option linter.unusedVariables false
namespace Go.Proofs.Ytmnpgkcdfielbaa
structure De where
  task:Int
  code:Int
  elem:Int
  beg:Int
  fin:Int
  reply:Int
  out:Int
structure Wo where
  ch:Ch
  hands:List Ha
  deals:List De
  now:Int
def Wo.zero:Wo:=⟨Ch.zero,[],[],0⟩
def De.zero:De:=⟨0,0,0,0,0,0,0⟩
def taskB (n:Nat) (who:Int):Bool:=inB who 0 ((n:Int) - 1)
def dealB (n:Nat) (now:Int) (d:De):Bool:=taskB n d.task && (replyOk d.code d.elem d.reply && (inB d.beg 0 now && (inB d.fin 0 now && inB d.out 0 999)))
def handB11 (now:Int) (h:Ha):Bool:=handOk h && decide (h.beg≤now)
def worldHead (x:Wo):Bool:=chanOk x.ch && (decide (1≤x.hands.length) && (decide (x.hands.length≤6) && (decide (x.deals.length≤1000) && inB x.now 0 20000)))
def worldOk (x:Wo):Bool:=worldHead x && (x.hands.all (handB11 x.now) && x.deals.all (dealB x.hands.length x.now))
def handAt (x:Wo) (who:Int):Ha:=x.hands.getD who.toNat Ha.zero
def setHand (x:Wo) (who:Int) (h:Ha):Wo:={ x with hands:=x.hands.set who.toNat h }
def taskOk (x:Wo) (who:Int):Bool:=taskB x.hands.length who
def asked (x:Wo) (who k e:Int):Wo × Int :=
  if worldOk x && taskOk x who then
    if (called (handAt x who) k e).2 != 0 then (x,(called (handAt x who) k e).2) else if x.now == 20000 then (x,1)
    else ({ setHand x who { (called (handAt x who) k e).1 with beg:=x.now+1 } with now:=x.now+1 },0)
  else (Wo.zero,3)
/-- What a step makes of a world. -/
def stepW (x:Wo) (who:Int) (s:St):Wo × Bool :=
  if !s.2.2 || x.now == 20000 then (x,false)
  else if s.2.1.pos != 0 then ({ setHand x who s.2.1 with now:=x.now+1,ch:=s.1 },true)
  else if decide (1000≤x.deals.length) || !replyOk (handAt x who).code (handAt x who).elem s.2.1.reply then (x,false)
  else ({ setHand x who s.2.1 with now:=x.now+1,ch:=s.1,deals:=x.deals ++ [⟨who,(handAt x who).code,(handAt x who).elem,(handAt x who).beg,x.now+1,s.2.1.reply,s.2.1.out⟩] },true)
def step11 (x:Wo) (who:Int):Wo × Bool:=stepW x who (stepC x.ch (handAt x who))
/-- At most that many steps of one who is not at rest: the world, and how many. -/
def aloneN:Nat→Wo→Int→Wo × Nat
  | 0,x,_=>(x,0)
  | n+1,x,who=>if (handAt x who).pos == 0 then (x,0) else if (step11 x who).2 then ((aloneN n (step11 x who).1 who).1,(aloneN n (step11 x who).1 who).2+1) else (x,0)
def alone (x:Wo) (who most:Int):Wo × Int :=
  if worldOk x && taskOk x who then (if inB most 0 20000 then ((aloneN most.toNat x who).1,(aloneN most.toNat x who).2) else (x,-1)) else (Wo.zero,-1)
def stopped (x:Wo) (who:Int):Wo × Bool :=
  if worldOk x && taskOk x who then
    (if (handAt x who).pos != 23 then (x,false) else ({ x with ch:=tellC x.ch (handAt x who).mine 2 },tellB x.ch (handAt x who).mine 2))
  else (Wo.zero,false)
end Go.Proofs.Ytmnpgkcdfielbaa
set_option linter.unusedSimpArgs false
set_option linter.unusedVariables false
namespace Go.Proofs.Ytmnpgkcdfielbaa
open Go.RowKit
def dvals (d:De):Array Value:=#[.int .i64 d.task,.int .i64 d.code,.int .i64 d.elem,.int .i64 d.beg,.int .i64 d.fin,.int .i64 d.reply,.int .i64 d.out]
def flatH (hs:List Ha):List Value:=hs.flatMap fun h=>(hvals h).toList
def flatD (ds:List De):List Value:=ds.flatMap fun d=>(dvals d).toList
def handF (hs:List Ha) (i j:Nat):Value:=(hvals (hs.getD i Ha.zero)).getD j (.int .i64 0)
def dealF (ds:List De) (i j:Nat):Value:=(dvals (ds.getD i De.zero)).getD j (.int .i64 0)
theorem flatH_len (hs:List Ha):(flatH hs).length=hs.length*14:=by
  induction hs with
  | nil=>rfl
  | cons c cs ih=>simp [flatH,hvals] at *;omega
theorem flatD_len (ds:List De):(flatD ds).length=ds.length*7:=by
  induction ds with
  | nil=>rfl
  | cons c cs ih=>simp [flatD,dvals] at *;omega
theorem flatH_get:∀ (hs:List Ha) (i j:Nat),i<hs.length→j<14→(flatH hs)[i*14+j]?=some (handF hs i j)
  | [],i,j,hi,_=>by simp at hi
  | c :: cs,0,j,_,hj=>by
    have e:flatH (c :: cs)=(hvals c).toList ++ flatH cs:=by simp [flatH]
    rw [e,List.getElem?_append_left (by simp [hv_size];omega)]
    simp [handF,Array.getD,hv_size,hj]
  | c :: cs,i+1,j,hi,hj=>by
    have h:=flatH_get cs i j (by simpa using hi) hj
    have e:flatH (c :: cs)=(hvals c).toList ++ flatH cs:=by simp [flatH]
    rw [e,List.getElem?_append_right (by simp [hv_size];omega)]
    have e2:(i+1)*14+j - (hvals c).toList.length=i*14+j:=by simp [hv_size];omega
    rw [e2,h]
    simp [handF]
theorem flatD_get:∀ (hs:List De) (i j:Nat),i<hs.length→j<7→(flatD hs)[i*7+j]?=some (dealF hs i j)
  | [],i,j,hi,_=>by simp at hi
  | c :: cs,0,j,_,hj=>by
    have e:flatD (c :: cs)=(dvals c).toList ++ flatD cs:=by simp [flatD]
    rw [e,List.getElem?_append_left (by simp [dvals];omega)]
    simp [dealF,Array.getD,dvals,hj]
  | c :: cs,i+1,j,hi,hj=>by
    have h:=flatD_get cs i j (by simpa using hi) hj
    have e:flatD (c :: cs)=(dvals c).toList ++ flatD cs:=by simp [flatD]
    rw [e,List.getElem?_append_right (by simp [dvals];omega)]
    have e2:(i+1)*7+j - (dvals c).toList.length=i*7+j:=by simp [dvals];omega
    rw [e2,h]
    simp [dealF]
theorem flatH_one (hs:List Ha):∀ u ∈ flatH hs,u.oneCell'=true:=by
  intro u hu
  simp only [flatH,List.mem_flatMap] at hu
  obtain ⟨c,_,hc⟩:=hu
  simp [hvals] at hc
  rcases hc with rfl|rfl|rfl|rfl|rfl|rfl|rfl|rfl|rfl|rfl|rfl|rfl|rfl|rfl <;> rfl
theorem flatD_one (hs:List De):∀ u ∈ flatD hs,u.oneCell'=true:=by
  intro u hu
  simp only [flatD,List.mem_flatMap] at hu
  obtain ⟨c,_,hc⟩:=hu
  simp [dvals] at hc
  rcases hc with rfl|rfl|rfl|rfl|rfl|rfl|rfl <;> rfl
/-- A list of hands, of deals, of the call's own. -/
abbrev OHands (w:World) (lo:Nat) (v:Value) (hs:List Ha):Prop:=w.ownsRow lo 53 14 v hs.length (flatH hs)
abbrev ODeals (w:World) (lo:Nat) (v:Value) (ds:List De):Prop:=w.ownsRow lo 74 7 v ds.length (flatD ds)
theorem own_seg {w:World} {lo:Nat} {t:TypeId} {n k:Nat} {v:Value} {xs:List Value} {f:Nat→Nat→Value} (h:w.ownsRow lo t k v n xs) (hf:∀ i j,i<n→j<k→xs[i*k+j]?=some (f i j)):∃ (a:Option Addr) (cap:Nat),v=.slice a n cap∧Seg w w.heap.size a n k f:=by
  rcases h.2 with ⟨rfl,h0⟩|⟨g,cap,cur,rfl,_,hg,_⟩
  · exact ⟨none,0,by rw [h0],.inl h0⟩
  · refine ⟨_,cap,rfl,.inr ⟨g,0,rfl,(Array.getElem?_eq_some_iff.1 hg).1,fun i j hi hj=>?_⟩⟩
    have:=h.cells (g:=g) rfl (i*k+j) _ (hf i j hi hj)
    rw [← this]
    congr 1
    by_cases e:i*k+j=0 <;> simp [Addr.add,e] <;> omega
theorem OHands.seg {w:World} {lo:Nat} {v:Value} {hs:List Ha} (h:OHands w lo v hs):∃ (a:Option Addr) (cap:Nat),v=.slice a hs.length cap∧Seg w w.heap.size a hs.length 14 (handF hs):=own_seg h fun i j hi hj=>flatH_get hs i j hi hj
theorem ODeals.seg {w:World} {lo:Nat} {v:Value} {ds:List De} (h:ODeals w lo v ds):∃ (a:Option Addr) (cap:Nat),v=.slice a ds.length cap∧Seg w w.heap.size a ds.length 7 (dealF ds):=own_seg h fun i j hi hj=>flatD_get ds i j hi hj
variable {w:World} {b o:Nat}
/-- A hand that lies in a list is loaded whole. -/
theorem ldHandE (x:Ha) (h:∀ j,j<14→w.cell? ⟨b,o+j,none⟩=some ((hvals x).getD j (.int .i64 0))):(LHand (.pointer (some ⟨b,o,none⟩))).run Try.prog w=.ok (.agg (hvals x)) w:=by
  have h0:=h 0 (by omega)
  have h1:=h 1 (by omega)
  have h2:=h 2 (by omega)
  have h3:=h 3 (by omega)
  have h4:=h 4 (by omega)
  have h5:=h 5 (by omega)
  have h6:=h 6 (by omega)
  have h7:=h 7 (by omega)
  have h8:=h 8 (by omega)
  have h9:=h 9 (by omega)
  have h10:=h 10 (by omega)
  have h11:=h 11 (by omega)
  have h12:=h 12 (by omega)
  have h13:=h 13 (by omega)
  simp [hvals,Array.getD] at h0 h1 h2 h3 h4 h5 h6 h7 h8 h9 h10 h11 h12 h13
  simp [LHand,hvals,go_sem, *]
end Go.Proofs.Ytmnpgkcdfielbaa
