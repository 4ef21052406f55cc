/-
  Small lemmas on worlds, lists in memory and cells; no condition.
  What the document's functions of chapters 1 to 12 compute, as plain functions on numbers and lists; no condition.
  What the document's functions of chapters 4 and 5 compute, as plain functions on numbers; no condition.
  What the document's steps of chapters 6 to 10 compute, as plain functions on numbers and lists; no condition.
  What the document's steps of chapters 7 to 10 compute, as plain functions on numbers and lists; no condition.
  What the document's functions of chapters 11 and 12 compute, as plain functions on numbers and lists; no condition.
-/
import Derived.Test.YthdjlpkcmhajlaaGreatProg
import Derived.WalkKit
import Derived.WalkSpells
import Derived.WalkLawsBesides
import Derived.Lib.Hide
import Derived.BigQuiet
import Derived.Deep.QuietTactic
import Derived.Deep.RegionHeld3
import Derived.StillTailTactics
set_option linter.unusedSimpArgs false
set_option linter.unusedVariables false
namespace Go.Proofs.YthdjlpkcmhajlaaGreat
open Go.RowKit
theorem bR {n:Nat} {w:World}:Below n w w:=Below.refl _ _
theorem bHit {P:Program} {f:FuncId} {args:Array Value} {W:World} {Q:Ending→World→Prop} (w:World) (h:Below w.heap.size w W) (k:Below w.heap.size w W→Calls P f args W Q):Calls P f args W Q:=k h
theorem bA {w W:World} {o:Obj} (h:Below w.heap.size w W):Below w.heap.size w (W.alloc o):=h.alloc h.size o
theorem bD {w W:World} (h:Below w.heap.size w W):Below w.heap.size w W.drew:=h.drew
theorem bS {w W:World} {p:Addr} {u:Value} (h:Below w.heap.size w W) (hp:w.heap.size≤p.block):Below w.heap.size w (W.setCell p u):=h.setCell hp u
theorem bT {w W w1:World} (h:Below w.heap.size w W) (k:Below W.heap.size W w1):Below w.heap.size w w1:=h.trans (k.mono h.size)
theorem ret_bool {a b:Bool} (h:a=b):Ending.returned (.bool a)=.returned (.bool b):=by rw [h]
def inB (n lo hi:Int):Bool:=decide (lo≤n) && decide (n≤hi)
theorem inB_yes {n lo hi:Int} (h1:lo≤n) (h2:n≤hi):inB n lo hi=true:=by simp [inB,h1,h2]
theorem inB_no {n lo hi:Int} (h:n<lo∨hi<n):inB n lo hi=false:=by simp [inB];omega
theorem inB_lo {n lo hi:Int} (h:lo≤n):decide (n≤hi)=inB n lo hi:=by simp [inB,h]
theorem inB_iff {n lo hi:Int}:inB n lo hi=true↔lo≤n∧n≤hi:=by simp [inB]
def cellB (s e t:Int):Bool:=inB s 0 10 && inB e 0 999 && inB t 0 80
theorem cellB_1 {s e t:Int} (h:¬ inB s 0 10=true):false=cellB s e t:=by simp [cellB,h]
theorem cellB_2 {s e t:Int} (h:¬ inB e 0 999=true):false=cellB s e t:=by simp [cellB,h]
theorem cellB_3 {s e t:Int} (h:inB s 0 10=true) (h2:inB e 0 999=true):inB t 0 80=cellB s e t:=by simp [cellB,h,h2]
def laidF (s e t m:Int):Int:=if cellB s e t && inB m 0 999 then m else e
theorem laidF_1 {s e t m:Int} (h:¬ cellB s e t=true):laidF s e t m=e:=by simp [laidF,h]
theorem laidF_2 {s e t m:Int} (h:(!inB m 0 999)=true):laidF s e t m=e:=by simp at h;simp [laidF,h]
theorem laidF_3 {s e t m:Int} (h1:cellB s e t=true) (h:(!inB m 0 999)=false):laidF s e t m=m:=by simp at h;simp [laidF,h1,h]
def turnB (s e t f n v:Int):Bool:=s == f && (cellB s e t && cellB n e v)
def turnS (s e t f n v:Int):Int:=if turnB s e t f n v then n else s
def turnW (s e t f n v:Int):Int:=if turnB s e t f n v then v else t
theorem turn_1 {s e t f n v:Int} (h:¬ s=f):turnB s e t f n v=false:=by simp [turnB,h]
theorem turn_2 {s e t f n v:Int} (h:¬ cellB s e t=true):turnB s e t f n v=false:=by simp [turnB,h]
theorem turn_3 {s e t f n v:Int} (h:(!cellB n e v)=true):turnB s e t f n v=false:=by simp at h;simp [turnB,h]
theorem turn_4 {s e t n v:Int} (h1:cellB s e t=true) (h:(!cellB n e v)=false):turnB s e t s n v=true:=by simp at h;simp [turnB,h,h1]
def TurnR (s e t f n v:Int) (r:Ending):Prop:=r=.returned (.tuple #[.agg #[.int .i64 (turnS s e t f n v),.int .i64 e,.int .i64 (turnW s e t f n v)],.bool (turnB s e t f n v)])
theorem turnR_no {s e t f n v:Int} (h:turnB s e t f n v=false):TurnR s e t f n v (.returned (.tuple #[.agg #[.int .i64 s,.int .i64 e,.int .i64 t],.bool false])):=by simp [TurnR,turnS,turnW,h]
theorem turnR_yes {s e t f n v:Int} (h:turnB s e t f n v=true):TurnR s e t f n v (.returned (.tuple #[.agg #[.int .i64 n,.int .i64 e,.int .i64 v],.bool true])):=by simp [TurnR,turnS,turnW,h]
/-- n elements of k cells each lie from address a on, below block B; f says what each cell holds. -/
def Seg (w:World) (B:Nat) (a:Option Addr) (n k:Nat) (f:Nat→Nat→Value):Prop :=
  n=0∨∃ b o,a=some ⟨b,o,none⟩∧b<B∧∀ i j,i<n→j<k→w.cell? ⟨b,o+i*k+j,none⟩=some (f i j)
/-- Block b is just n elements of k cells each, of type t, none frozen; f says what each cell holds. -/
def Row (w:World) (b:Nat) (t:TypeId) (n k:Nat) (f:Nat→Nat→Value):Prop :=
  ∃ c:Array Value,w.heap[b]?=some (.cells c t (0,0))∧c.size=n*k∧∀ i j,i<n→j<k→c[i*k+j]?=some (f i j)
namespace Row
variable {w w':World} {b:Nat} {t:TypeId} {n k:Nat} {f g:Nat→Nat→Value}
theorem cell (h:Row w b t n k f) {i j:Nat} (hi:i<n) (hj:j<k):w.cell? ⟨b,i*k+j,none⟩=some (f i j):=by
  obtain ⟨c,hb,_,hc⟩:=h
  simp [World.cell?,hb,hc i j hi hj]
theorem frozen (h:Row w b t n k f) (o:Nat):w.frozen? ⟨b,o,none⟩=false:=by
  obtain ⟨c,hb,_,_⟩:=h
  simp [World.frozen?,hb]
theorem lt (h:Row w b t n k f):b<w.heap.size:=by
  obtain ⟨c,hb,_,_⟩:=h
  obtain ⟨hlt,_⟩:=Array.getElem?_eq_some_iff.1 hb
  exact hlt
theorem congr (h:Row w b t n k f) (e:∀ i j,i<n→j<k→f i j=g i j):Row w b t n k g:=by
  obtain ⟨c,hb,hn,hc⟩:=h
  exact ⟨c,hb,hn,fun i j hi hj=>by rw [hc i j hi hj,e i j hi hj]⟩
theorem of_block (h:Row w b t n k f) (e:w'.heap[b]?=w.heap[b]?):Row w' b t n k f:=by
  obtain ⟨c,hb,hn,hc⟩:=h
  exact ⟨c,e.trans hb,hn,hc⟩
theorem below {B:Nat} (h:Row w b t n k f) (hb:Below B w w') (hB:b<B):Row w' b t n k f:=h.of_block (hb.block b hB)
theorem idx {i j i' j' k:Nat} (hj:j<k) (hj':j'<k) (h:i*k+j=i'*k+j'):i=i'∧j=j':=by
  have h1:(i*k+j) / k=i:=by rw [Nat.mul_comm,Nat.mul_add_div (by omega),Nat.div_eq_of_lt hj];rfl
  have h2:(i'*k+j') / k=i':=by rw [Nat.mul_comm,Nat.mul_add_div (by omega),Nat.div_eq_of_lt hj'];rfl
  have:i=i':=by rw [← h1,← h2,h]
  subst this
  exact ⟨rfl,by omega⟩
theorem set (h:Row w b t n k f) {i j:Nat} (hi:i<n) (hj:j<k) (v:Value):Row (w.setCell ⟨b,i*k+j,none⟩ v) b t n k (fun i' j'=>if i'=i∧j'=j then v else f i' j'):=by
  obtain ⟨c,hb,hn,hc⟩:=h
  refine ⟨c.setIfInBounds (i*k+j) v,?_,by simpa using hn,fun i' j' hi' hj'=>?_⟩
  · simp [World.setCell,Array.getElem?_modify,hb]
  · rw [Array.getElem?_setIfInBounds]
    by_cases e:i*k+j=i'*k+j'
    · obtain ⟨rfl,rfl⟩:=idx hj hj' e
      have hlt:i*k+j<c.size:=(Array.getElem?_eq_some_iff.1 (hc i j hi hj)).1
      simp [hlt]
    · rw [if_neg e]
      show c[i'*k+j']?=some (if i'=i∧j'=j then v else f i' j')
      rw [if_neg (fun h=>e (by rw [h.1,h.2]))]
      exact hc i' j' hi' hj'
theorem alloc (h:Row w b t n k f) (o:Obj):Row (w.alloc o) b t n k f:=h.of_block (Below.heap_alloc w o b h.lt)
theorem setOther (h:Row w b t n k f) {a:Addr} (ha:b≠a.block) (v:Value):Row (w.setCell a v) b t n k f:=h.of_block (Below.heap_setCell w a v b ha)
theorem seg (h:Row w b t n k f):Seg w w.heap.size (some ⟨b,0,none⟩) n k f:=.inr ⟨b,0,rfl,h.lt,fun i j hi hj=>by simpa using h.cell hi hj⟩
theorem made (w:World) (z:Array Value) (n:Nat) (t:TypeId):Row (w.alloc (.cells (madeCells z (n*z.size)) t)) w.heap.size t n z.size (fun _ j=>z[j]!):=by
  refine ⟨_,heap_alloc_new w _,size_madeCells _ _,fun i j hi hj=>?_⟩
  have hlt:i*z.size+j<n*z.size:=by
    have:=Nat.mul_le_mul_right z.size (show i+1≤n from hi)
    rw [Nat.add_mul] at this
    omega
  simp [madeCells,hlt,Nat.mod_eq_of_lt hj]
end Row
theorem Seg.below {w w':World} {B:Nat} {a:Option Addr} {n k:Nat} {f:Nat→Nat→Value} (h:Seg w B a n k f) (hb:Below B w w'):Seg w' B a n k f:=by
  rcases h with h|⟨b,o,ha,hB,hc⟩
  · exact .inl h
  · exact .inr ⟨b,o,ha,hB,fun i j hi hj=>(hb.cell (p:=⟨b,o+i*k+j,none⟩) hB).trans (hc i j hi hj)⟩
theorem Seg.more {w:World} {B B':Nat} {a:Option Addr} {n k:Nat} {f:Nat→Nat→Value} (h:Seg w B a n k f) (hb:B≤B'):Seg w B' a n k f:=by
  rcases h with h|⟨b,o,ha,hB,hc⟩
  · exact .inl h
  · exact .inr ⟨b,o,ha,Nat.lt_of_lt_of_le hB hb,hc⟩
theorem Seg.setOther {w:World} {B B':Nat} {a:Option Addr} {n k:Nat} {f:Nat→Nat→Value} {p:Addr} {u:Value} (h:Seg w B a n k f) (hB:B≤B') (hp:B≤p.block):Seg (w.setCell p u) B' a n k f:=by
  rcases h with h|⟨b,o,ha,hb,hc⟩
  · exact .inl h
  · exact .inr ⟨b,o,ha,Nat.lt_of_lt_of_le hb hB,fun i j hi hj=>(World.cell?_setCell_other _ _ _ _ (fun e=>by subst e;simp at hp;omega)).trans (hc i j hi hj)⟩
structure C3 where
  s:Int
  e:Int
  t:Int
def C3.val (c:C3) (j:Nat):Value:=match j with|0=>.int .i64 c.s|1=>.int .i64 c.e|_=>.int .i64 c.t
def cellF (cs:List C3) (i j:Nat):Value:=(cs.getD i ⟨0,0,0⟩).val j
def okC (c:C3):Bool:=cellB c.s c.e c.t
theorem not_true {b:Bool} (h:(!b)=true):b=false:=by simpa using h
theorem not_false {b:Bool} (h:(!b)=false):b=true:=by simpa using h
theorem ret_i64 {a b:Int} (h:a=b):Ending.returned (.int .i64 a)=.returned (.int .i64 b):=by rw [h]
theorem take_snocC (cs:List C3) (k:Nat) (h:k<cs.length):cs.take (k+1)=cs.take k ++ [cs.getD k ⟨0,0,0⟩]:=by
  rw [List.take_succ_eq_append_getElem h];simp [List.getD,List.getElem?_eq_getElem h]
/-- What only makes memory, and writes what it has made: shown by its shape. -/
theorem zB {lo:Nat} {w W:World} (h:Below lo w W:=by (repeat (with_reducible first|assumption|exact bR|refine bA ?_|refine bD ?_|((first|refine bS ?_ ?_|refine bBx ?_ ?_);rotate_left;focus (try simp) <;> (try omega))))):Below lo w W:=h
end Go.Proofs.YthdjlpkcmhajlaaGreat
set_option linter.unusedSimpArgs false
set_option linter.unusedVariables false
namespace Go.Proofs.YthdjlpkcmhajlaaGreat
structure Ch where
  cap:Int
  sent:Int
  got:Int
  fin:Int
  cells:List C3
  words:List Int
structure Ca where
  code:Int
  elem:Int
structure Ha where
  pos:Int
  code:Int
  elem:Int
  cell:Int
  seen:Int
  wait:Int
  fin:Int
  come:Int
  grow:Int
  mine:Int
  nxt:Int
  beg:Int
  reply:Int
  out:Int
def C3.zero:C3:=⟨0,0,0⟩
def Ch.zero:Ch:=⟨0,0,0,0,[],[]⟩
def Ha.zero:Ha:=⟨0,0,0,0,0,0,0,0,0,0,0,0,0,0⟩
/- Chapter 2 -/
def cellFits (m:Nat) (c:C3):Bool:=okC c && decide (c.t≤m)
def chanHead (c:Ch):Bool:=inB c.cap 0 4 && (inB c.sent 0 40 && (inB c.got 0 40 && (inB c.fin 0 40 && (decide (c.cells.length=40) && decide (c.words.length≤80)))))
def chanOk (c:Ch):Bool:=chanHead c && (c.cells.all (cellFits c.words.length) && c.words.all (fun x=>inB x 0 2))
def newChan (cap:Int):Ch:=if inB cap 0 4 then ⟨cap,0,0,cap,List.replicate 40 C3.zero,[]⟩ else Ch.zero
def hasW (c:Ch) (w:Int):Bool:=inB w 1 c.words.length
def wordAt (c:Ch) (w:Int):Int:=c.words.getD (w - 1).toNat 0
def tellB (c:Ch) (w word:Int):Bool:=hasW c w && (wordAt c w == 0 && inB word 1 2)
def tellC (c:Ch) (w word:Int):Ch:=if tellB c w word then { c with words:=c.words.set (w - 1).toNat word } else c
end Go.Proofs.YthdjlpkcmhajlaaGreat
set_option linter.unusedSimpArgs false
set_option linter.unusedVariables false
namespace Go.Proofs.YthdjlpkcmhajlaaGreat
def callOk (k e:Int):Bool:=(k == 1 && inB e 0 999) || (k == 2 && e == 0)
def replyOk (k e r:Int):Bool:=callOk k e && (inB r 1 4 && ((k == 1 || r != 1) && (k == 2 || r != 2)))
def noCall (k e:Int):Bool:=k == 0 && e == 0
def handA (h:Ha):Bool:=inB h.pos 0 25 && (if h.pos == 0 then noCall h.code h.elem else callOk h.code h.elem)
def handB (h:Ha):Bool:=inB h.cell 0 39 && (inB h.grow 0 39 && (inB h.seen 0 10 && (inB h.wait 0 80 && inB h.mine 0 80)))
def handC (h:Ha):Bool:=inB h.fin 0 40 && (inB h.come 0 40 && (inB h.nxt 0 2 && (inB h.beg 0 20000 && (inB h.reply 0 4 && inB h.out 0 999))))
def handOk (h:Ha):Bool:=handA h && (handB h && handC h)
def resting (r o:Int):Ha:=⟨0,0,0,0,0,0,0,0,0,0,0,0,r,o⟩
def begun (k e b:Int):Ha:=⟨if k == 2 then 9 else 1,k,e,0,0,0,0,0,0,0,0,b,0,0⟩
/-- What is answered to a call, and the code. -/
def called (h:Ha) (k e:Int):Ha × Int:=if handOk h then (if h.pos == 0 then (if callOk k e then (begun k e 0,0) else (h,2)) else (h,1)) else (Ha.zero,3)
end Go.Proofs.YthdjlpkcmhajlaaGreat
set_option linter.unusedSimpArgs false
set_option linter.unusedVariables false
namespace Go.Proofs.YthdjlpkcmhajlaaGreat
abbrev St:=Ch × Ha × Bool
def stepOk (c:Ch) (h:Ha) (f t k:Int):Bool:=chanOk c && (handOk h && (inB h.pos f t && (k == 0 || h.code == k)))
def nothing:St:=(Ch.zero,Ha.zero,false)
def done (c:Ch) (h:Ha):St:=if chanOk c && handOk h then (c,h,true) else nothing
def anew (h:Ha):Ha:=begun h.code h.elem h.beg
def cellAt (c:Ch) (i:Int):C3:=c.cells.getD i.toNat ⟨0,0,0⟩
def setAt (c:Ch) (i:Int) (x:C3):Ch:={ c with cells:=c.cells.set i.toNat x }
def stateC (c:Ch) (i st:Int):Ch:=setAt c i { cellAt c i with s:=st }
def turnX (x:C3) (f t v:Int):C3:=⟨turnS x.s x.e x.t f t v,x.e,turnW x.s x.e x.t f t v⟩
def turnXB (x:C3) (f t v:Int):Bool:=turnB x.s x.e x.t f t v
def turnC (c:Ch) (i f t v:Int):Ch:=setAt c i (turnX (cellAt c i) f t v)
def turnCB (c:Ch) (i f t v:Int):Bool:=turnXB (cellAt c i) f t v
/- Chapter 6 -/
def seenAs (h:Ha) (x:C3):Ha:={ h with seen:=x.s,wait:=x.t }
def look6 (c:Ch) (h:Ha):Ha × Bool :=
  let x:=cellAt c h.cell
  let y:=seenAs h x
  if x.s == 0 then ({ y with pos:=4 },true) else if x.s == 1 then ({ y with pos:=6 },true) else if x.s == 4 then ({ y with pos:=7 },true)
  else if x.s == 8 then (anew y,true) else if x.s == 10 then (anew y,true) else (y,false)
def call6 (c:Ch) (h:Ha):Ch × Ha:=(tellC c h.wait 1,if tellB c h.wait 1 then { h with pos:=8 } else anew h)
def wait6 (c:Ch) (h:Ha) (st th el:Int):Ch × Ha :=
  if 80≤c.words.length then (c,resting 4 0) else
  if turnCB c h.cell h.seen st (c.words.length+1) then ({ turnC c h.cell h.seen st (c.words.length+1) with words:=c.words ++ [0] },{ h with mine:=c.words.length+1,pos:=th })
  else (turnC c h.cell h.seen st (c.words.length+1),{ h with pos:=el })
def put6 (c:Ch) (h:Ha):St :=
  if h.seen != 0 && h.seen != 1 then nothing else
  if h.seen == 0 && (decide (h.come≤h.cell) && decide (h.fin≤h.cell)) then done (wait6 c h 3 23 3).1 (wait6 c h 3 23 3).2 else
  if turnCB c h.cell h.seen 2 0 then done (turnC c h.cell h.seen 2 0) (resting 1 0) else done (turnC c h.cell h.seen 2 0) { h with pos:=3 }
def send1 (c:Ch) (h:Ha):St:=if c.sent == 40 then done c (resting 4 0) else done { c with sent:=c.sent+1 } { h with cell:=c.sent,pos:=2 }
def layC (c:Ch) (i m:Int):Ch:=setAt c i { cellAt c i with e:=laidF (cellAt c i).s (cellAt c i).e (cellAt c i).t m }
def send2 (c:Ch) (h:Ha):St:=done (layC c h.cell h.elem) { h with pos:=3 }
def send3 (c:Ch) (h:Ha):St:=if (look6 c h).2 then done c (look6 c h).1 else nothing
def sendStep (c:Ch) (h:Ha):St :=
  if stepOk c h 1 8 1 then
    if h.pos == 1 then send1 c h else if h.pos == 2 then send2 c h else if h.pos == 3 then send3 c h
    else if h.pos == 4 then done c { h with fin:=c.fin,pos:=5 } else if h.pos == 5 then done c { h with come:=c.got,pos:=6 }
    else if h.pos == 6 then put6 c h else if h.pos == 7 then done (call6 c h).1 (call6 c h).2 else done (stateC c h.cell 7) (resting 1 0)
  else nothing
end Go.Proofs.YthdjlpkcmhajlaaGreat
set_option linter.unusedSimpArgs false
set_option linter.unusedVariables false
namespace Go.Proofs.YthdjlpkcmhajlaaGreat
/- Chapter 7 -/
def viewAs (h:Ha) (x:C3):Ha:={ h with seen:=x.s,wait:=x.t,out:=x.e }
def view7 (c:Ch) (h:Ha):Ha × Bool :=
  let x:=cellAt c h.cell
  let y:=viewAs h x
  if x.s == 0 then ({ y with pos:=11 },true) else if x.s == 1 then ({ y with pos:=11 },true) else if x.s == 2 then ({ y with pos:=12 },true)
  else if x.s == 3 then ({ y with pos:=12 },true) else if x.s == 9 then (anew y,true) else (y,false)
def grow7 (h:Ha) (t:Int):Ha:={ h with nxt:=t,pos:=16 }
def turn7 (c:Ch) (h:Ha) (to wt:Int) (thn:Ha):St :=
  if turnCB c h.cell h.seen to wt then done (turnC c h.cell h.seen to wt) thn else done (turnC c h.cell h.seen to wt) { h with pos:=10 }
def then7 (h:Ha):Ha:=if h.pos == 16 then { h with nxt:=1 } else h
def take7 (c:Ch) (h:Ha):St :=
  if h.seen == 2 then turn7 c h 7 0 (grow7 h 0) else if h.seen == 3 then turn7 c h 5 h.wait { h with pos:=13 }
  else if h.seen != 0 && h.seen != 1 then nothing else if h.cell<h.come then turn7 c h 8 0 (grow7 h 2)
  else done (wait6 c h 4 16 10).1 (then7 (wait6 c h 4 16 10).2)
def recv1 (c:Ch) (h:Ha):St:=if c.got == 40 then done c (resting 4 0) else done { c with got:=c.got+1 } { h with cell:=c.got,pos:=10 }
def recv2 (c:Ch) (h:Ha):St:=if (cellAt c h.cell).s == 6 then (c,h,false) else if (view7 c h).2 then done c (view7 c h).1 else nothing
def wake7 (c:Ch) (h:Ha):St:=done (tellC c h.wait 1) { h with pos:=if tellB c h.wait 1 then 14 else 15 }
def recvStep (c:Ch) (h:Ha):St :=
  if stepOk c h 9 15 2 then
    if h.pos == 9 then recv1 c h else if h.pos == 10 then recv2 c h else if h.pos == 11 then done c { h with come:=c.sent,pos:=12 }
    else if h.pos == 12 then take7 c h else if h.pos == 13 then wake7 c h
    else if h.pos == 14 then done (stateC c h.cell 7) (grow7 h 0) else done (stateC c h.cell 9) (anew h)
  else nothing
/- Chapter 8 -/
def grown8 (h:Ha):Ha:=if h.nxt == 0 then resting 2 h.out else if h.nxt == 1 then { h with pos:=23 } else anew h
def meet8 (c:Ch) (h:Ha):Ha :=
  let x:=cellAt c h.grow
  let y:=seenAs h x
  if x.s == 0 then { y with pos:=19 } else if x.s == 3 then { y with pos:=19 } else if x.s == 9 then { y with pos:=16 } else grown8 y
def turn8 (c:Ch) (h:Ha) (to wt:Int) (thn:Ha):St :=
  if turnCB c h.grow h.seen to wt then done (turnC c h.grow h.seen to wt) thn else done (turnC c h.grow h.seen to wt) { h with pos:=18 }
def pull8 (c:Ch) (h:Ha):St:=if h.seen == 3 then turn8 c h 6 h.wait { h with pos:=20 } else if h.seen == 0 then turn8 c h 1 0 (grown8 h) else nothing
def begin8 (c:Ch) (h:Ha):Ch × Ha:=if c.cap == 0 || c.fin == 40 then (c,grown8 h) else ({ c with fin:=c.fin+1 },{ h with grow:=c.fin,pos:=17 })
def meetStep (c:Ch) (h:Ha):St:=if (cellAt c h.grow).s == 5 then (c,h,false) else done c (meet8 c h)
def raise8 (c:Ch) (h:Ha):St:=done (tellC c h.wait 1) { h with pos:=if tellB c h.wait 1 then 21 else 22 }
def growStep (c:Ch) (h:Ha):St :=
  if stepOk c h 16 22 2 then
    if h.pos == 16 then done (begin8 c h).1 (begin8 c h).2 else if h.pos == 17 then (if c.sent≤h.grow then done c (grown8 h) else done c { h with pos:=18 })
    else if h.pos == 18 then meetStep c h else if h.pos == 19 then pull8 c h else if h.pos == 20 then raise8 c h
    else if h.pos == 21 then done (stateC c h.grow 2) (grown8 h) else done (stateC c h.grow 9) { h with pos:=16 }
  else nothing
/- Chapters 9 and 10 -/
def park9 (c:Ch) (h:Ha):St :=
  if wordAt c h.mine == 0 then (c,h,false) else if wordAt c h.mine == 2 then done c { h with pos:=25 }
  else if h.code == 1 then done c (resting 1 0) else done c { h with pos:=24 }
def goneS (h:Ha):Int:=if h.code == 1 then 9 else 10
def parkStep (c:Ch) (h:Ha):St :=
  if stepOk c h 23 25 0 && (hasW c h.mine && !(h.pos == 24 && h.code == 1)) then
    if h.pos == 23 then park9 c h else if h.pos == 24 then done c (resting 2 (cellAt c h.cell).e) else done (stateC c h.cell (goneS h)) (resting 3 0)
  else nothing
def stepC (c:Ch) (h:Ha):St :=
  if inB h.pos 1 8 then sendStep c h else if inB h.pos 9 15 then recvStep c h else if inB h.pos 16 22 then growStep c h else parkStep c h
end Go.Proofs.YthdjlpkcmhajlaaGreat
set_option linter.unusedSimpArgs false
set_option linter.unusedVariables false
namespace Go.Proofs.YthdjlpkcmhajlaaGreat
structure De where
  task:Int
  code:Int
  elem:Int
  beg:Int
  fin:Int
  reply:Int
  out:Int
structure Wo where
  ch:Ch
  hands:List Ha
  deals:List De
  now:Int
def Wo.zero:Wo:=⟨Ch.zero,[],[],0⟩
def De.zero:De:=⟨0,0,0,0,0,0,0⟩
def taskB (n:Nat) (who:Int):Bool:=inB who 0 ((n:Int) - 1)
def dealB (n:Nat) (now:Int) (d:De):Bool:=taskB n d.task && (replyOk d.code d.elem d.reply && (inB d.beg 0 now && (inB d.fin 0 now && inB d.out 0 999)))
def handB11 (now:Int) (h:Ha):Bool:=handOk h && decide (h.beg≤now)
def worldHead (x:Wo):Bool:=chanOk x.ch && (decide (1≤x.hands.length) && (decide (x.hands.length≤6) && (decide (x.deals.length≤1000) && inB x.now 0 20000)))
def worldOk (x:Wo):Bool:=worldHead x && (x.hands.all (handB11 x.now) && x.deals.all (dealB x.hands.length x.now))
def newWorld (cap tasks:Int):Wo × Bool:=if inB cap 0 4 && inB tasks 1 6 then (⟨newChan cap,List.replicate tasks.toNat (resting 0 0),[],0⟩,true) else (Wo.zero,false)
def handAt (x:Wo) (who:Int):Ha:=x.hands.getD who.toNat Ha.zero
def setHand (x:Wo) (who:Int) (h:Ha):Wo:={ x with hands:=x.hands.set who.toNat h }
def taskOk (x:Wo) (who:Int):Bool:=taskB x.hands.length who
def asked (x:Wo) (who k e:Int):Wo × Int :=
  if worldOk x && taskOk x who then
    if (called (handAt x who) k e).2 != 0 then (x,(called (handAt x who) k e).2) else if x.now == 20000 then (x,1)
    else ({ setHand x who { (called (handAt x who) k e).1 with beg:=x.now+1 } with now:=x.now+1 },0)
  else (Wo.zero,3)
/-- What a step makes of a world. -/
def stepW (x:Wo) (who:Int) (s:St):Wo × Bool :=
  if !s.2.2 || x.now == 20000 then (x,false)
  else if s.2.1.pos != 0 then ({ setHand x who s.2.1 with now:=x.now+1,ch:=s.1 },true)
  else if decide (1000≤x.deals.length) || !replyOk (handAt x who).code (handAt x who).elem s.2.1.reply then (x,false)
  else ({ setHand x who s.2.1 with now:=x.now+1,ch:=s.1,deals:=x.deals ++ [⟨who,(handAt x who).code,(handAt x who).elem,(handAt x who).beg,x.now+1,s.2.1.reply,s.2.1.out⟩] },true)
def step11 (x:Wo) (who:Int):Wo × Bool:=stepW x who (stepC x.ch (handAt x who))
/-- At most that many steps of one who is not at rest: the world, and how many. -/
def aloneN:Nat→Wo→Int→Wo × Nat
  | 0,x,_=>(x,0)
  | n+1,x,who=>if (handAt x who).pos == 0 then (x,0) else if (step11 x who).2 then ((aloneN n (step11 x who).1 who).1,(aloneN n (step11 x who).1 who).2+1) else (x,0)
def alone (x:Wo) (who most:Int):Wo × Int :=
  if worldOk x && taskOk x who then (if inB most 0 20000 then ((aloneN most.toNat x who).1,(aloneN most.toNat x who).2) else (x,-1)) else (Wo.zero,-1)
def stopped (x:Wo) (who:Int):Wo × Bool :=
  if worldOk x && taskOk x who then
    (if (handAt x who).pos != 23 then (x,false) else ({ x with ch:=tellC x.ch (handAt x who).mine 2 },tellB x.ch (handAt x who).mine 2))
  else (Wo.zero,false)
end Go.Proofs.YthdjlpkcmhajlaaGreat
