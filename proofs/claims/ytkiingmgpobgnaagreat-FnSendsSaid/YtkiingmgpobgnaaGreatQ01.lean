/-
  Small lemmas on worlds, lists in memory and cells; no condition.
  What the document's functions of chapters 1 to 12 compute, as plain functions on numbers and lists; no condition.
  What the document's functions of chapters 4 and 5 compute, as plain functions on numbers; no condition.
  What the document's steps of chapters 6 to 10 compute, as plain functions on numbers and lists; no condition.
  What the document's steps of chapters 7 to 10 compute, as plain functions on numbers and lists; no condition.
  What the document's functions of chapters 11 and 12 compute, as plain functions on numbers and lists; no condition.
  Lists in memory that a call has made itself, and lists that are appended to them; no condition.
  Lists of a call's own that lie from the start of a block on; no condition.
  Structs that are kept, loaded and stored as one value; no condition.
  Hands and channels of the program, loaded and stored whole; no condition.
  Lists of hands and of deals in memory; no condition.
  The contracts of the reference model's functions of chapter 1; no condition.
  The reference model's functions of chapter 4; no condition.
  The reference model's functions of chapter 2; lists lie in memory and hold at most what memory can hold.
  The reference model's functions of chapter 5, on hands that are kept whole; no condition.
  The reference model's looks at a world; lists lie in memory and hold at most 2 ^ 40 elements.
  The reference model's copies of lists and of a channel: the same in new memory; lists lie in memory and hold at most 2 ^ 40 elements.
-/
import Derived.Test.YtkiingmgpobgnaaGreatProg
import Derived.WalkKit
import Derived.WalkSpells
import Derived.WalkLawsBesides
import Derived.Lib.Hide
import Derived.BigQuiet
import Derived.Deep.QuietTactic
import Derived.Deep.RegionHeld3
import Derived.StillTailTactics
import Derived.Laws.AppendOwnNone
import Derived.Laws.IdiomCopy
set_option linter.unusedSimpArgs false
set_option linter.unusedVariables false
namespace Go.Proofs.YtkiingmgpobgnaaGreat
open Go.RowKit
theorem bR {n:Nat} {w:World}:Below n w w:=Below.refl _ _
theorem bHit {P:Program} {f:FuncId} {args:Array Value} {W:World} {Q:Ending→World→Prop} (w:World) (h:Below w.heap.size w W) (k:Below w.heap.size w W→Calls P f args W Q):Calls P f args W Q:=k h
theorem bA {w W:World} {o:Obj} (h:Below w.heap.size w W):Below w.heap.size w (W.alloc o):=h.alloc h.size o
theorem bD {w W:World} (h:Below w.heap.size w W):Below w.heap.size w W.drew:=h.drew
theorem bS {w W:World} {p:Addr} {u:Value} (h:Below w.heap.size w W) (hp:w.heap.size≤p.block):Below w.heap.size w (W.setCell p u):=h.setCell hp u
theorem bT {w W w1:World} (h:Below w.heap.size w W) (k:Below W.heap.size W w1):Below w.heap.size w w1:=h.trans (k.mono h.size)
theorem ret_bool {a b:Bool} (h:a=b):Ending.returned (.bool a)=.returned (.bool b):=by rw [h]
def inB (n lo hi:Int):Bool:=decide (lo≤n) && decide (n≤hi)
theorem inB_yes {n lo hi:Int} (h1:lo≤n) (h2:n≤hi):inB n lo hi=true:=by simp [inB,h1,h2]
theorem inB_no {n lo hi:Int} (h:n<lo∨hi<n):inB n lo hi=false:=by simp [inB];omega
theorem inB_lo {n lo hi:Int} (h:lo≤n):decide (n≤hi)=inB n lo hi:=by simp [inB,h]
theorem inB_iff {n lo hi:Int}:inB n lo hi=true↔lo≤n∧n≤hi:=by simp [inB]
def cellB (s e t:Int):Bool:=inB s 0 10 && inB e 0 999 && inB t 0 80
theorem cellB_1 {s e t:Int} (h:¬ inB s 0 10=true):false=cellB s e t:=by simp [cellB,h]
theorem cellB_2 {s e t:Int} (h:¬ inB e 0 999=true):false=cellB s e t:=by simp [cellB,h]
theorem cellB_3 {s e t:Int} (h:inB s 0 10=true) (h2:inB e 0 999=true):inB t 0 80=cellB s e t:=by simp [cellB,h,h2]
def laidF (s e t m:Int):Int:=if cellB s e t && inB m 0 999 then m else e
theorem laidF_1 {s e t m:Int} (h:¬ cellB s e t=true):laidF s e t m=e:=by simp [laidF,h]
theorem laidF_2 {s e t m:Int} (h:(!inB m 0 999)=true):laidF s e t m=e:=by simp at h;simp [laidF,h]
theorem laidF_3 {s e t m:Int} (h1:cellB s e t=true) (h:(!inB m 0 999)=false):laidF s e t m=m:=by simp at h;simp [laidF,h1,h]
def turnB (s e t f n v:Int):Bool:=s == f && (cellB s e t && cellB n e v)
def turnS (s e t f n v:Int):Int:=if turnB s e t f n v then n else s
def turnW (s e t f n v:Int):Int:=if turnB s e t f n v then v else t
theorem turn_1 {s e t f n v:Int} (h:¬ s=f):turnB s e t f n v=false:=by simp [turnB,h]
theorem turn_2 {s e t f n v:Int} (h:¬ cellB s e t=true):turnB s e t f n v=false:=by simp [turnB,h]
theorem turn_3 {s e t f n v:Int} (h:(!cellB n e v)=true):turnB s e t f n v=false:=by simp at h;simp [turnB,h]
theorem turn_4 {s e t n v:Int} (h1:cellB s e t=true) (h:(!cellB n e v)=false):turnB s e t s n v=true:=by simp at h;simp [turnB,h,h1]
def TurnR (s e t f n v:Int) (r:Ending):Prop:=r=.returned (.tuple #[.agg #[.int .i64 (turnS s e t f n v),.int .i64 e,.int .i64 (turnW s e t f n v)],.bool (turnB s e t f n v)])
theorem turnR_no {s e t f n v:Int} (h:turnB s e t f n v=false):TurnR s e t f n v (.returned (.tuple #[.agg #[.int .i64 s,.int .i64 e,.int .i64 t],.bool false])):=by simp [TurnR,turnS,turnW,h]
theorem turnR_yes {s e t f n v:Int} (h:turnB s e t f n v=true):TurnR s e t f n v (.returned (.tuple #[.agg #[.int .i64 n,.int .i64 e,.int .i64 v],.bool true])):=by simp [TurnR,turnS,turnW,h]
/-- n elements of k cells each lie from address a on, below block B; f says what each cell holds. -/
def Seg (w:World) (B:Nat) (a:Option Addr) (n k:Nat) (f:Nat→Nat→Value):Prop :=
  n=0∨∃ b o,a=some ⟨b,o,none⟩∧b<B∧∀ i j,i<n→j<k→w.cell? ⟨b,o+i*k+j,none⟩=some (f i j)
/-- Block b is just n elements of k cells each, of type t, none frozen; f says what each cell holds. -/
def Row (w:World) (b:Nat) (t:TypeId) (n k:Nat) (f:Nat→Nat→Value):Prop :=
  ∃ c:Array Value,w.heap[b]?=some (.cells c t (0,0))∧c.size=n*k∧∀ i j,i<n→j<k→c[i*k+j]?=some (f i j)
namespace Row
variable {w w':World} {b:Nat} {t:TypeId} {n k:Nat} {f g:Nat→Nat→Value}
theorem cell (h:Row w b t n k f) {i j:Nat} (hi:i<n) (hj:j<k):w.cell? ⟨b,i*k+j,none⟩=some (f i j):=by
  obtain ⟨c,hb,_,hc⟩:=h
  simp [World.cell?,hb,hc i j hi hj]
theorem frozen (h:Row w b t n k f) (o:Nat):w.frozen? ⟨b,o,none⟩=false:=by
  obtain ⟨c,hb,_,_⟩:=h
  simp [World.frozen?,hb]
theorem lt (h:Row w b t n k f):b<w.heap.size:=by
  obtain ⟨c,hb,_,_⟩:=h
  obtain ⟨hlt,_⟩:=Array.getElem?_eq_some_iff.1 hb
  exact hlt
theorem congr (h:Row w b t n k f) (e:∀ i j,i<n→j<k→f i j=g i j):Row w b t n k g:=by
  obtain ⟨c,hb,hn,hc⟩:=h
  exact ⟨c,hb,hn,fun i j hi hj=>by rw [hc i j hi hj,e i j hi hj]⟩
theorem of_block (h:Row w b t n k f) (e:w'.heap[b]?=w.heap[b]?):Row w' b t n k f:=by
  obtain ⟨c,hb,hn,hc⟩:=h
  exact ⟨c,e.trans hb,hn,hc⟩
theorem below {B:Nat} (h:Row w b t n k f) (hb:Below B w w') (hB:b<B):Row w' b t n k f:=h.of_block (hb.block b hB)
theorem idx {i j i' j' k:Nat} (hj:j<k) (hj':j'<k) (h:i*k+j=i'*k+j'):i=i'∧j=j':=by
  have h1:(i*k+j) / k=i:=by rw [Nat.mul_comm,Nat.mul_add_div (by omega),Nat.div_eq_of_lt hj];rfl
  have h2:(i'*k+j') / k=i':=by rw [Nat.mul_comm,Nat.mul_add_div (by omega),Nat.div_eq_of_lt hj'];rfl
  have:i=i':=by rw [← h1,← h2,h]
  subst this
  exact ⟨rfl,by omega⟩
theorem set (h:Row w b t n k f) {i j:Nat} (hi:i<n) (hj:j<k) (v:Value):Row (w.setCell ⟨b,i*k+j,none⟩ v) b t n k (fun i' j'=>if i'=i∧j'=j then v else f i' j'):=by
  obtain ⟨c,hb,hn,hc⟩:=h
  refine ⟨c.setIfInBounds (i*k+j) v,?_,by simpa using hn,fun i' j' hi' hj'=>?_⟩
  · simp [World.setCell,Array.getElem?_modify,hb]
  · rw [Array.getElem?_setIfInBounds]
    by_cases e:i*k+j=i'*k+j'
    · obtain ⟨rfl,rfl⟩:=idx hj hj' e
      have hlt:i*k+j<c.size:=(Array.getElem?_eq_some_iff.1 (hc i j hi hj)).1
      simp [hlt]
    · rw [if_neg e]
      show c[i'*k+j']?=some (if i'=i∧j'=j then v else f i' j')
      rw [if_neg (fun h=>e (by rw [h.1,h.2]))]
      exact hc i' j' hi' hj'
theorem alloc (h:Row w b t n k f) (o:Obj):Row (w.alloc o) b t n k f:=h.of_block (Below.heap_alloc w o b h.lt)
theorem setOther (h:Row w b t n k f) {a:Addr} (ha:b≠a.block) (v:Value):Row (w.setCell a v) b t n k f:=h.of_block (Below.heap_setCell w a v b ha)
theorem seg (h:Row w b t n k f):Seg w w.heap.size (some ⟨b,0,none⟩) n k f:=.inr ⟨b,0,rfl,h.lt,fun i j hi hj=>by simpa using h.cell hi hj⟩
theorem made (w:World) (z:Array Value) (n:Nat) (t:TypeId):Row (w.alloc (.cells (madeCells z (n*z.size)) t)) w.heap.size t n z.size (fun _ j=>z[j]!):=by
  refine ⟨_,heap_alloc_new w _,size_madeCells _ _,fun i j hi hj=>?_⟩
  have hlt:i*z.size+j<n*z.size:=by
    have:=Nat.mul_le_mul_right z.size (show i+1≤n from hi)
    rw [Nat.add_mul] at this
    omega
  simp [madeCells,hlt,Nat.mod_eq_of_lt hj]
end Row
theorem Seg.below {w w':World} {B:Nat} {a:Option Addr} {n k:Nat} {f:Nat→Nat→Value} (h:Seg w B a n k f) (hb:Below B w w'):Seg w' B a n k f:=by
  rcases h with h|⟨b,o,ha,hB,hc⟩
  · exact .inl h
  · exact .inr ⟨b,o,ha,hB,fun i j hi hj=>(hb.cell (p:=⟨b,o+i*k+j,none⟩) hB).trans (hc i j hi hj)⟩
theorem Seg.more {w:World} {B B':Nat} {a:Option Addr} {n k:Nat} {f:Nat→Nat→Value} (h:Seg w B a n k f) (hb:B≤B'):Seg w B' a n k f:=by
  rcases h with h|⟨b,o,ha,hB,hc⟩
  · exact .inl h
  · exact .inr ⟨b,o,ha,Nat.lt_of_lt_of_le hB hb,hc⟩
theorem Seg.setOther {w:World} {B B':Nat} {a:Option Addr} {n k:Nat} {f:Nat→Nat→Value} {p:Addr} {u:Value} (h:Seg w B a n k f) (hB:B≤B') (hp:B≤p.block):Seg (w.setCell p u) B' a n k f:=by
  rcases h with h|⟨b,o,ha,hb,hc⟩
  · exact .inl h
  · exact .inr ⟨b,o,ha,Nat.lt_of_lt_of_le hb hB,fun i j hi hj=>(World.cell?_setCell_other _ _ _ _ (fun e=>by subst e;simp at hp;omega)).trans (hc i j hi hj)⟩
structure C3 where
  s:Int
  e:Int
  t:Int
def C3.val (c:C3) (j:Nat):Value:=match j with|0=>.int .i64 c.s|1=>.int .i64 c.e|_=>.int .i64 c.t
def cellF (cs:List C3) (i j:Nat):Value:=(cs.getD i ⟨0,0,0⟩).val j
def okC (c:C3):Bool:=cellB c.s c.e c.t
theorem not_true {b:Bool} (h:(!b)=true):b=false:=by simpa using h
theorem not_false {b:Bool} (h:(!b)=false):b=true:=by simpa using h
theorem ret_i64 {a b:Int} (h:a=b):Ending.returned (.int .i64 a)=.returned (.int .i64 b):=by rw [h]
theorem take_snocC (cs:List C3) (k:Nat) (h:k<cs.length):cs.take (k+1)=cs.take k ++ [cs.getD k ⟨0,0,0⟩]:=by
  rw [List.take_succ_eq_append_getElem h];simp [List.getD,List.getElem?_eq_getElem h]
/-- What only makes memory, and writes what it has made: shown by its shape. -/
theorem zB {lo:Nat} {w W:World} (h:Below lo w W:=by (repeat (with_reducible first|assumption|exact bR|refine bA ?_|refine bD ?_|((first|refine bS ?_ ?_|refine bBx ?_ ?_);rotate_left;focus (try simp) <;> (try omega))))):Below lo w W:=h
end Go.Proofs.YtkiingmgpobgnaaGreat
set_option linter.unusedSimpArgs false
set_option linter.unusedVariables false
namespace Go.Proofs.YtkiingmgpobgnaaGreat
structure Ch where
  cap:Int
  sent:Int
  got:Int
  fin:Int
  cells:List C3
  words:List Int
structure Ca where
  code:Int
  elem:Int
structure Ha where
  pos:Int
  code:Int
  elem:Int
  cell:Int
  seen:Int
  wait:Int
  fin:Int
  come:Int
  grow:Int
  mine:Int
  nxt:Int
  beg:Int
  reply:Int
  out:Int
def C3.zero:C3:=⟨0,0,0⟩
def Ch.zero:Ch:=⟨0,0,0,0,[],[]⟩
def Ha.zero:Ha:=⟨0,0,0,0,0,0,0,0,0,0,0,0,0,0⟩
/- Chapter 2 -/
def cellFits (m:Nat) (c:C3):Bool:=okC c && decide (c.t≤m)
def chanHead (c:Ch):Bool:=inB c.cap 0 4 && (inB c.sent 0 40 && (inB c.got 0 40 && (inB c.fin 0 40 && (decide (c.cells.length=40) && decide (c.words.length≤80)))))
def chanOk (c:Ch):Bool:=chanHead c && (c.cells.all (cellFits c.words.length) && c.words.all (fun x=>inB x 0 2))
def newChan (cap:Int):Ch:=if inB cap 0 4 then ⟨cap,0,0,cap,List.replicate 40 C3.zero,[]⟩ else Ch.zero
def hasW (c:Ch) (w:Int):Bool:=inB w 1 c.words.length
def wordAt (c:Ch) (w:Int):Int:=c.words.getD (w - 1).toNat 0
def tellB (c:Ch) (w word:Int):Bool:=hasW c w && (wordAt c w == 0 && inB word 1 2)
def tellC (c:Ch) (w word:Int):Ch:=if tellB c w word then { c with words:=c.words.set (w - 1).toNat word } else c
end Go.Proofs.YtkiingmgpobgnaaGreat
set_option linter.unusedSimpArgs false
set_option linter.unusedVariables false
namespace Go.Proofs.YtkiingmgpobgnaaGreat
def callOk (k e:Int):Bool:=(k == 1 && inB e 0 999) || (k == 2 && e == 0)
def replyOk (k e r:Int):Bool:=callOk k e && (inB r 1 4 && ((k == 1 || r != 1) && (k == 2 || r != 2)))
def noCall (k e:Int):Bool:=k == 0 && e == 0
def handA (h:Ha):Bool:=inB h.pos 0 25 && (if h.pos == 0 then noCall h.code h.elem else callOk h.code h.elem)
def handB (h:Ha):Bool:=inB h.cell 0 39 && (inB h.grow 0 39 && (inB h.seen 0 10 && (inB h.wait 0 80 && inB h.mine 0 80)))
def handC (h:Ha):Bool:=inB h.fin 0 40 && (inB h.come 0 40 && (inB h.nxt 0 2 && (inB h.beg 0 20000 && (inB h.reply 0 4 && inB h.out 0 999))))
def handOk (h:Ha):Bool:=handA h && (handB h && handC h)
def resting (r o:Int):Ha:=⟨0,0,0,0,0,0,0,0,0,0,0,0,r,o⟩
def begun (k e b:Int):Ha:=⟨if k == 2 then 9 else 1,k,e,0,0,0,0,0,0,0,0,b,0,0⟩
/-- What is answered to a call, and the code. -/
def called (h:Ha) (k e:Int):Ha × Int:=if handOk h then (if h.pos == 0 then (if callOk k e then (begun k e 0,0) else (h,2)) else (h,1)) else (Ha.zero,3)
end Go.Proofs.YtkiingmgpobgnaaGreat
set_option linter.unusedSimpArgs false
set_option linter.unusedVariables false
namespace Go.Proofs.YtkiingmgpobgnaaGreat
abbrev St:=Ch × Ha × Bool
def stepOk (c:Ch) (h:Ha) (f t k:Int):Bool:=chanOk c && (handOk h && (inB h.pos f t && (k == 0 || h.code == k)))
def nothing:St:=(Ch.zero,Ha.zero,false)
def done (c:Ch) (h:Ha):St:=if chanOk c && handOk h then (c,h,true) else nothing
def anew (h:Ha):Ha:=begun h.code h.elem h.beg
def cellAt (c:Ch) (i:Int):C3:=c.cells.getD i.toNat ⟨0,0,0⟩
def setAt (c:Ch) (i:Int) (x:C3):Ch:={ c with cells:=c.cells.set i.toNat x }
def stateC (c:Ch) (i st:Int):Ch:=setAt c i { cellAt c i with s:=st }
def turnX (x:C3) (f t v:Int):C3:=⟨turnS x.s x.e x.t f t v,x.e,turnW x.s x.e x.t f t v⟩
def turnXB (x:C3) (f t v:Int):Bool:=turnB x.s x.e x.t f t v
def turnC (c:Ch) (i f t v:Int):Ch:=setAt c i (turnX (cellAt c i) f t v)
def turnCB (c:Ch) (i f t v:Int):Bool:=turnXB (cellAt c i) f t v
/- Chapter 6 -/
def seenAs (h:Ha) (x:C3):Ha:={ h with seen:=x.s,wait:=x.t }
def look6 (c:Ch) (h:Ha):Ha × Bool :=
  let x:=cellAt c h.cell
  let y:=seenAs h x
  if x.s == 0 then ({ y with pos:=4 },true) else if x.s == 1 then ({ y with pos:=6 },true) else if x.s == 4 then ({ y with pos:=7 },true)
  else if x.s == 8 then (anew y,true) else if x.s == 10 then (anew y,true) else (y,false)
def call6 (c:Ch) (h:Ha):Ch × Ha:=(tellC c h.wait 1,if tellB c h.wait 1 then { h with pos:=8 } else anew h)
def wait6 (c:Ch) (h:Ha) (st th el:Int):Ch × Ha :=
  if 80≤c.words.length then (c,resting 4 0) else
  if turnCB c h.cell h.seen st (c.words.length+1) then ({ turnC c h.cell h.seen st (c.words.length+1) with words:=c.words ++ [0] },{ h with mine:=c.words.length+1,pos:=th })
  else (turnC c h.cell h.seen st (c.words.length+1),{ h with pos:=el })
def put6 (c:Ch) (h:Ha):St :=
  if h.seen != 0 && h.seen != 1 then nothing else
  if h.seen == 0 && (decide (h.come≤h.cell) && decide (h.fin≤h.cell)) then done (wait6 c h 3 23 3).1 (wait6 c h 3 23 3).2 else
  if turnCB c h.cell h.seen 2 0 then done (turnC c h.cell h.seen 2 0) (resting 1 0) else done (turnC c h.cell h.seen 2 0) { h with pos:=3 }
def send1 (c:Ch) (h:Ha):St:=if c.sent == 40 then done c (resting 4 0) else done { c with sent:=c.sent+1 } { h with cell:=c.sent,pos:=2 }
def layC (c:Ch) (i m:Int):Ch:=setAt c i { cellAt c i with e:=laidF (cellAt c i).s (cellAt c i).e (cellAt c i).t m }
def send2 (c:Ch) (h:Ha):St:=done (layC c h.cell h.elem) { h with pos:=3 }
def send3 (c:Ch) (h:Ha):St:=if (look6 c h).2 then done c (look6 c h).1 else nothing
def sendStep (c:Ch) (h:Ha):St :=
  if stepOk c h 1 8 1 then
    if h.pos == 1 then send1 c h else if h.pos == 2 then send2 c h else if h.pos == 3 then send3 c h
    else if h.pos == 4 then done c { h with fin:=c.fin,pos:=5 } else if h.pos == 5 then done c { h with come:=c.got,pos:=6 }
    else if h.pos == 6 then put6 c h else if h.pos == 7 then done (call6 c h).1 (call6 c h).2 else done (stateC c h.cell 7) (resting 1 0)
  else nothing
end Go.Proofs.YtkiingmgpobgnaaGreat
set_option linter.unusedSimpArgs false
set_option linter.unusedVariables false
namespace Go.Proofs.YtkiingmgpobgnaaGreat
/- Chapter 7 -/
def viewAs (h:Ha) (x:C3):Ha:={ h with seen:=x.s,wait:=x.t,out:=x.e }
def view7 (c:Ch) (h:Ha):Ha × Bool :=
  let x:=cellAt c h.cell
  let y:=viewAs h x
  if x.s == 0 then ({ y with pos:=11 },true) else if x.s == 1 then ({ y with pos:=11 },true) else if x.s == 2 then ({ y with pos:=12 },true)
  else if x.s == 3 then ({ y with pos:=12 },true) else if x.s == 9 then (anew y,true) else (y,false)
def grow7 (h:Ha) (t:Int):Ha:={ h with nxt:=t,pos:=16 }
def turn7 (c:Ch) (h:Ha) (to wt:Int) (thn:Ha):St :=
  if turnCB c h.cell h.seen to wt then done (turnC c h.cell h.seen to wt) thn else done (turnC c h.cell h.seen to wt) { h with pos:=10 }
def then7 (h:Ha):Ha:=if h.pos == 16 then { h with nxt:=1 } else h
def take7 (c:Ch) (h:Ha):St :=
  if h.seen == 2 then turn7 c h 7 0 (grow7 h 0) else if h.seen == 3 then turn7 c h 5 h.wait { h with pos:=13 }
  else if h.seen != 0 && h.seen != 1 then nothing else if h.cell<h.come then turn7 c h 8 0 (grow7 h 2)
  else done (wait6 c h 4 16 10).1 (then7 (wait6 c h 4 16 10).2)
def recv1 (c:Ch) (h:Ha):St:=if c.got == 40 then done c (resting 4 0) else done { c with got:=c.got+1 } { h with cell:=c.got,pos:=10 }
def recv2 (c:Ch) (h:Ha):St:=if (cellAt c h.cell).s == 6 then (c,h,false) else if (view7 c h).2 then done c (view7 c h).1 else nothing
def wake7 (c:Ch) (h:Ha):St:=done (tellC c h.wait 1) { h with pos:=if tellB c h.wait 1 then 14 else 15 }
def recvStep (c:Ch) (h:Ha):St :=
  if stepOk c h 9 15 2 then
    if h.pos == 9 then recv1 c h else if h.pos == 10 then recv2 c h else if h.pos == 11 then done c { h with come:=c.sent,pos:=12 }
    else if h.pos == 12 then take7 c h else if h.pos == 13 then wake7 c h
    else if h.pos == 14 then done (stateC c h.cell 7) (grow7 h 0) else done (stateC c h.cell 9) (anew h)
  else nothing
/- Chapter 8 -/
def grown8 (h:Ha):Ha:=if h.nxt == 0 then resting 2 h.out else if h.nxt == 1 then { h with pos:=23 } else anew h
def meet8 (c:Ch) (h:Ha):Ha :=
  let x:=cellAt c h.grow
  let y:=seenAs h x
  if x.s == 0 then { y with pos:=19 } else if x.s == 3 then { y with pos:=19 } else if x.s == 9 then { y with pos:=16 } else grown8 y
def turn8 (c:Ch) (h:Ha) (to wt:Int) (thn:Ha):St :=
  if turnCB c h.grow h.seen to wt then done (turnC c h.grow h.seen to wt) thn else done (turnC c h.grow h.seen to wt) { h with pos:=18 }
def pull8 (c:Ch) (h:Ha):St:=if h.seen == 3 then turn8 c h 6 h.wait { h with pos:=20 } else if h.seen == 0 then turn8 c h 1 0 (grown8 h) else nothing
def begin8 (c:Ch) (h:Ha):Ch × Ha:=if c.cap == 0 || c.fin == 40 then (c,grown8 h) else ({ c with fin:=c.fin+1 },{ h with grow:=c.fin,pos:=17 })
def meetStep (c:Ch) (h:Ha):St:=if (cellAt c h.grow).s == 5 then (c,h,false) else done c (meet8 c h)
def raise8 (c:Ch) (h:Ha):St:=done (tellC c h.wait 1) { h with pos:=if tellB c h.wait 1 then 21 else 22 }
def growStep (c:Ch) (h:Ha):St :=
  if stepOk c h 16 22 2 then
    if h.pos == 16 then done (begin8 c h).1 (begin8 c h).2 else if h.pos == 17 then (if c.sent≤h.grow then done c (grown8 h) else done c { h with pos:=18 })
    else if h.pos == 18 then meetStep c h else if h.pos == 19 then pull8 c h else if h.pos == 20 then raise8 c h
    else if h.pos == 21 then done (stateC c h.grow 2) (grown8 h) else done (stateC c h.grow 9) { h with pos:=16 }
  else nothing
/- Chapters 9 and 10 -/
def park9 (c:Ch) (h:Ha):St :=
  if wordAt c h.mine == 0 then (c,h,false) else if wordAt c h.mine == 2 then done c { h with pos:=25 }
  else if h.code == 1 then done c (resting 1 0) else done c { h with pos:=24 }
def goneS (h:Ha):Int:=if h.code == 1 then 9 else 10
def parkStep (c:Ch) (h:Ha):St :=
  if stepOk c h 23 25 0 && (hasW c h.mine && !(h.pos == 24 && h.code == 1)) then
    if h.pos == 23 then park9 c h else if h.pos == 24 then done c (resting 2 (cellAt c h.cell).e) else done (stateC c h.cell (goneS h)) (resting 3 0)
  else nothing
def stepC (c:Ch) (h:Ha):St :=
  if inB h.pos 1 8 then sendStep c h else if inB h.pos 9 15 then recvStep c h else if inB h.pos 16 22 then growStep c h else parkStep c h
end Go.Proofs.YtkiingmgpobgnaaGreat
set_option linter.unusedSimpArgs false
set_option linter.unusedVariables false
namespace Go.Proofs.YtkiingmgpobgnaaGreat
structure De where
  task:Int
  code:Int
  elem:Int
  beg:Int
  fin:Int
  reply:Int
  out:Int
structure Wo where
  ch:Ch
  hands:List Ha
  deals:List De
  now:Int
def Wo.zero:Wo:=⟨Ch.zero,[],[],0⟩
def De.zero:De:=⟨0,0,0,0,0,0,0⟩
def taskB (n:Nat) (who:Int):Bool:=inB who 0 ((n:Int) - 1)
def dealB (n:Nat) (now:Int) (d:De):Bool:=taskB n d.task && (replyOk d.code d.elem d.reply && (inB d.beg 0 now && (inB d.fin 0 now && inB d.out 0 999)))
def handB11 (now:Int) (h:Ha):Bool:=handOk h && decide (h.beg≤now)
def worldHead (x:Wo):Bool:=chanOk x.ch && (decide (1≤x.hands.length) && (decide (x.hands.length≤6) && (decide (x.deals.length≤1000) && inB x.now 0 20000)))
def worldOk (x:Wo):Bool:=worldHead x && (x.hands.all (handB11 x.now) && x.deals.all (dealB x.hands.length x.now))
def newWorld (cap tasks:Int):Wo × Bool:=if inB cap 0 4 && inB tasks 1 6 then (⟨newChan cap,List.replicate tasks.toNat (resting 0 0),[],0⟩,true) else (Wo.zero,false)
def handAt (x:Wo) (who:Int):Ha:=x.hands.getD who.toNat Ha.zero
def setHand (x:Wo) (who:Int) (h:Ha):Wo:={ x with hands:=x.hands.set who.toNat h }
def taskOk (x:Wo) (who:Int):Bool:=taskB x.hands.length who
def asked (x:Wo) (who k e:Int):Wo × Int :=
  if worldOk x && taskOk x who then
    if (called (handAt x who) k e).2 != 0 then (x,(called (handAt x who) k e).2) else if x.now == 20000 then (x,1)
    else ({ setHand x who { (called (handAt x who) k e).1 with beg:=x.now+1 } with now:=x.now+1 },0)
  else (Wo.zero,3)
/-- What a step makes of a world. -/
def stepW (x:Wo) (who:Int) (s:St):Wo × Bool :=
  if !s.2.2 || x.now == 20000 then (x,false)
  else if s.2.1.pos != 0 then ({ setHand x who s.2.1 with now:=x.now+1,ch:=s.1 },true)
  else if decide (1000≤x.deals.length) || !replyOk (handAt x who).code (handAt x who).elem s.2.1.reply then (x,false)
  else ({ setHand x who s.2.1 with now:=x.now+1,ch:=s.1,deals:=x.deals ++ [⟨who,(handAt x who).code,(handAt x who).elem,(handAt x who).beg,x.now+1,s.2.1.reply,s.2.1.out⟩] },true)
def step11 (x:Wo) (who:Int):Wo × Bool:=stepW x who (stepC x.ch (handAt x who))
/-- At most that many steps of one who is not at rest: the world, and how many. -/
def aloneN:Nat→Wo→Int→Wo × Nat
  | 0,x,_=>(x,0)
  | n+1,x,who=>if (handAt x who).pos == 0 then (x,0) else if (step11 x who).2 then ((aloneN n (step11 x who).1 who).1,(aloneN n (step11 x who).1 who).2+1) else (x,0)
def alone (x:Wo) (who most:Int):Wo × Int :=
  if worldOk x && taskOk x who then (if inB most 0 20000 then ((aloneN most.toNat x who).1,(aloneN most.toNat x who).2) else (x,-1)) else (Wo.zero,-1)
def stopped (x:Wo) (who:Int):Wo × Bool :=
  if worldOk x && taskOk x who then
    (if (handAt x who).pos != 23 then (x,false) else ({ x with ch:=tellC x.ch (handAt x who).mine 2 },tellB x.ch (handAt x who).mine 2))
  else (Wo.zero,false)
end Go.Proofs.YtkiingmgpobgnaaGreat
set_option linter.unusedSimpArgs false
set_option linter.unusedVariables false
namespace Go.Proofs.YtkiingmgpobgnaaGreat
open Go.RowKit
theorem rCell {g b:Nat} {w w1:World} (h:w.grownBy w1 (some g)) (hb:b<w.heap.size) (hn:b≠g) (o:Nat):w1.cell? ⟨b,o,none⟩=w.cell? ⟨b,o,none⟩:=World.cell?_of_block (h.block b hb (by simpa using hn))
theorem rFroz {g b:Nat} {w w1:World} (h:w.grownBy w1 (some g)) (hb:b<w.heap.size) (hn:b≠g) (o:Nat):w1.frozen? ⟨b,o,none⟩=w.frozen? ⟨b,o,none⟩:=World.frozen?_of_block (h.block b hb (by simpa using hn))
def intF (l:List Int) (i _j:Nat):Value:=.int .i64 (l.getD i 0)
def flatC (cs:List C3):List Value:=cs.flatMap fun c=>[.int .i64 c.s,.int .i64 c.e,.int .i64 c.t]
theorem flatC_snoc (cs:List C3) (c:C3):flatC (cs ++ [c])=flatC cs ++ [.int .i64 c.s,.int .i64 c.e,.int .i64 c.t]:=by simp [flatC]
theorem flatC_len (cs:List C3):(flatC cs).length=cs.length*3:=by
  induction cs with
  | nil=>rfl
  | cons c cs ih=>simp [flatC] at *;omega
theorem flatC_get:∀ (cs:List C3) (i j:Nat),i<cs.length→j<3→(flatC cs)[i*3+j]?=some (cellF cs i j)
  | [],i,j,hi,_=>by simp at hi
  | c :: cs,0,j,_,hj=>by
    have:j=0∨j=1∨j=2:=by omega
    rcases this with rfl|rfl|rfl <;> simp [flatC,cellF,C3.val]
  | c :: cs,i+1,j,hi,hj=>by
    have h:=flatC_get cs i j (by simpa using hi) hj
    have e:(i+1)*3+j=(i*3+j)+3:=by omega
    rw [e]
    simpa [flatC,cellF] using h
theorem flatC_one (cs:List C3):∀ u ∈ flatC cs,u.oneCell'=true:=by
  intro u hu
  simp only [flatC,List.mem_flatMap] at hu
  obtain ⟨c,_,hc⟩:=hu
  simp at hc
  rcases hc with rfl|rfl|rfl <;> rfl
def ints (l:List Int):List Value:=l.map (Value.int .i64)
theorem ints_one (l:List Int):∀ u ∈ ints l,u.oneCell'=true:=by
  intro u hu
  obtain ⟨x,_,rfl⟩:=List.mem_map.1 hu
  rfl
theorem bOwn {w W w1:World} {lo:Nat} {row:Option Nat} (h:Below lo w W) (hg:W.grownBy w1 row) (hB:lo≤W.heap.size) (hr:∀ k,row=some k→lo≤k):Below lo w w1:=h.grown hg hB hr
/-- The call's own list of cells, of numbers. -/
abbrev OCells (w:World) (lo:Nat) (v:Value) (cs:List C3):Prop:=w.ownsRow lo 52 3 v cs.length (flatC cs)
abbrev OInts (w:World) (lo:Nat) (v:Value) (l:List Int):Prop:=w.ownsRow lo 2 1 v l.length (ints l)
/-- An own list of cells, of numbers, lies in memory as a list. -/
theorem OCells.seg {w:World} {lo:Nat} {v:Value} {cs:List C3} (h:OCells w lo v cs):∃ (a:Option Addr) (cap:Nat),v=.slice a cs.length cap∧Seg w w.heap.size a cs.length 3 (cellF cs):=by
  rcases h.2 with ⟨rfl,h0⟩|⟨g,cap,cur,rfl,_,hg,_⟩
  · exact ⟨none,0,by rw [h0],.inl h0⟩
  · refine ⟨_,cap,rfl,.inr ⟨g,0,rfl,(Array.getElem?_eq_some_iff.1 hg).1,fun i j hi hj=>?_⟩⟩
    have:=h.cells (g:=g) rfl (i*3+j) _ (flatC_get cs i j hi hj)
    rw [← this]
    congr 1
    by_cases e:i*3+j=0 <;> simp [Addr.add,e] <;> omega
theorem OInts.seg {w:World} {lo:Nat} {v:Value} {l:List Int} (h:OInts w lo v l):∃ (a:Option Addr) (cap:Nat),v=.slice a l.length cap∧Seg w w.heap.size a l.length 1 (intF l):=by
  rcases h.2 with ⟨rfl,h0⟩|⟨g,cap,cur,rfl,_,hg,_⟩
  · exact ⟨none,0,by rw [h0],.inl h0⟩
  · refine ⟨_,cap,rfl,.inr ⟨g,0,rfl,(Array.getElem?_eq_some_iff.1 hg).1,fun i j hi hj=>?_⟩⟩
    have hj0:j=0:=by omega
    subst hj0
    have:=h.cells (g:=g) rfl i (intF l i 0) (by simp [ints,intF,List.getD,hi])
    rw [← this]
    congr 1
    by_cases e:i=0 <;> simp [Addr.add,e] <;> omega
theorem OInts.snoc {w:World} {lo:Nat} {v:Value} {l:List Int} {x:Int} (h:w.ownsRow lo 2 1 v (l.length+1) (ints l ++ [.int .i64 x])):OInts w lo v (l ++ [x]):=by
  have e:ints (l ++ [x])=ints l ++ [.int .i64 x]:=by simp [ints]
  unfold OInts
  rw [e,List.length_append]
  exact h
theorem OCells.snoc {w:World} {lo:Nat} {v:Value} {cs:List C3} {c:C3} (h:w.ownsRow lo 52 3 v (cs.length+1) (flatC cs ++ [.int .i64 c.s,.int .i64 c.e,.int .i64 c.t])):OCells w lo v (cs ++ [c]):=by
  unfold OCells
  rw [flatC_snoc,List.length_append]
  exact h
/-- What lies from an address on, cell by cell. -/
theorem Seg.newsC {w:World} {B b o:Nat} {cs:List C3} (h:Seg w B (some ⟨b,o,none⟩) cs.length 3 (cellF cs)):∀ j u,(flatC cs)[j]?=some u→w.cell? ((⟨b,o,none⟩:Addr).add j)=some u:=by
  intro j u hu
  have hj:j<cs.length*3:=by rw [← flatC_len];exact (List.getElem?_eq_some_iff.1 hu).1
  rcases h with h0|⟨b',o',e,_,hc⟩
  · omega
  · simp at e
    obtain ⟨rfl,rfl⟩:=e
    have e2:j=j / 3*3+j % 3:=by omega
    have h1:=flatC_get cs (j / 3) (j % 3) (by omega) (by omega)
    rw [← e2] at h1
    have h2:=hc (j / 3) (j % 3) (by omega) (by omega)
    rw [h1] at hu
    simp at hu
    rw [← hu,← h2]
    congr 1
    by_cases e:j=0 <;> simp [Addr.add,e] <;> omega
theorem Seg.newsI {w:World} {B b o:Nat} {l:List Int} (h:Seg w B (some ⟨b,o,none⟩) l.length 1 (intF l)):∀ j u,(ints l)[j]?=some u→w.cell? ((⟨b,o,none⟩:Addr).add j)=some u:=by
  intro j u hu
  have hj:j<l.length:=by have:=(List.getElem?_eq_some_iff.1 hu).1;simpa [ints] using this
  rcases h with h0|⟨b',o',e,_,hc⟩
  · omega
  · simp at e
    obtain ⟨rfl,rfl⟩:=e
    have h2:=hc j 0 hj (by omega)
    have:u=intF l j 0:=by simp [ints,hj] at hu;simp [intF,List.getD,hj,← hu]
    rw [this,← h2]
    congr 1
    by_cases e:j=0 <;> simp [Addr.add,e]
/-- An empty row that has just been made. -/
theorem own_made (w:World) (lo:Nat) (e:TypeId) (k:Nat) (h:lo≤w.heap.size):(w.alloc (.cells #[] e)).ownsRow lo e k (.slice (some ⟨w.heap.size,0,none⟩) 0 0) 0 [] :=
  World.ownsRow_made w #[] 0 h (by simp) (by simp)
theorem own_made_at (w:World) (lo:Nat) (e:TypeId) (k n:Nat) (hn:n=w.heap.size) (h:lo≤w.heap.size):(w.alloc (.cells #[] e)).ownsRow lo e k (.slice (some ⟨n,0,none⟩) 0 0) 0 []:=by
  subst hn;exact own_made w lo e k h
theorem cell_alloc_of {w:World} {p:Addr} {u:Value} {o:Obj} (h:w.cell? p=some u):(w.alloc o).cell? p=some u:=by
  rw [World.cell?_alloc_lt _ _ _ (World.block_lt_of_cell? w p h)];exact h
theorem own_lo {w:World} {lo lo':Nat} {e:TypeId} {k n:Nat} {v:Value} {xs:List Value} (h:w.ownsRow lo e k v n xs) (hl:lo'≤lo):w.ownsRow lo' e k v n xs:=by
  refine ⟨h.1,?_⟩
  rcases h.2 with h|⟨g,cap,cur,h1,h2,h3⟩
  · exact .inl h
  · exact .inr ⟨g,cap,cur,h1,Nat.le_trans hl h2,h3⟩
theorem own_ne {w:World} {lo:Nat} {e:TypeId} {k n:Nat} {v:Value} {xs:List Value} (h:w.ownsRow lo e k v n xs) {b:Nat} (hb:b<lo):v.ownBlock≠some b:=fun he=>by have:=(h.lt b he).1;omega
theorem own_below {w w1:World} {lo:Nat} {e:TypeId} {k n:Nat} {v:Value} {xs:List Value} (h:w.ownsRow lo e k v n xs) (hb:Below w.heap.size w w1):w1.ownsRow lo e k v n xs :=
  h.kept (row:=none) ⟨hb.os,hb.tape,hb.output,hb.size,fun i hi _=>hb.block i hi⟩ (by cases v.ownBlock <;> simp)
theorem oAl {w:World} {lo:Nat} {e:TypeId} {k n:Nat} {v:Value} {xs:List Value} (h:w.ownsRow lo e k v n xs) (o:Obj):(w.alloc o).ownsRow lo e k v n xs:=World.ownsRow.alloc h o
theorem oDr {w:World} {lo:Nat} {e:TypeId} {k n:Nat} {v:Value} {xs:List Value} (h:w.ownsRow lo e k v n xs):w.drew.ownsRow lo e k v n xs:=h
theorem own_store {w:World} {lo:Nat} {e:TypeId} {k n:Nat} {v:Value} {xs:List Value} (h:w.ownsRow lo e k v n xs) {p:Addr} (hp:v.ownBlock≠some p.block) (u:Value):(w.setCell p u).ownsRow lo e k v n xs :=
  h.kept (row:=some p.block) ⟨rfl,rfl,rfl,by simp [World.setCell],fun i _ hn=>Below.heap_setCell w p u i (fun e=>hn (by rw [e]))⟩ (.inr hp)
theorem own_set_cell {w:World} {lo:Nat} {e:TypeId} {k g n cap:Nat} {xs:List Value} (h:w.ownsRow lo e k (.slice (some ⟨g,0,none⟩) n cap) n xs) (i:Nat) (hi:i<xs.length) (u:Value) :
    (w.setCell ⟨g,i,none⟩ u).ownsRow lo e k (.slice (some ⟨g,0,none⟩) n cap) n (xs.set i u):=by
  refine ⟨by simpa using h.1,?_⟩
  rcases h.2 with ⟨h0,_⟩|⟨g',cap',cur,h1,h2,h3,h4,h5,h6,h7⟩
  · simp at h0
  · simp at h1
    obtain ⟨rfl,rfl⟩:=h1
    refine .inr ⟨g,cap,cur.setIfInBounds i u,rfl,h2,by simp [World.setCell,Array.getElem?_modify,h3],h4,h5,by simpa using h6,?_⟩
    rw [Array.toList_setIfInBounds,← h7,List.take_set]
theorem ints_set (l:List Int) (i:Nat) (x:Int):ints (l.set i x)=(ints l).set i (.int .i64 x):=by simp [ints,List.map_set]
theorem ints_len (l:List Int):(ints l).length=l.length:=by simp [ints]
theorem flatC_set:∀ (cs:List C3) (i:Nat) (c:C3),flatC (cs.set i c)=(((flatC cs).set (i*3) (.int .i64 c.s)).set (i*3+1) (.int .i64 c.e)).set (i*3+2) (.int .i64 c.t)
  | [],i,c=>by simp [flatC]
  | d :: cs,0,c=>by simp [flatC]
  | d :: cs,i+1,c=>by
    have h:=flatC_set cs i c
    have e0:(i+1)*3=i*3+3:=by omega
    rw [e0]
    simpa [flatC] using h
theorem infoInt:(Tryz.prog.info? 2).map (fun i=>(i.zero,i.size,i.bytes))=some (some (.int .i64 0),1,8):=by kernel_rfl
/-- Only block g may have turned. -/
abbrev Gr (g:Nat) (w w':World):Prop:=w.grownBy w' (some g)
theorem gR (g:Nat) (w:World):Gr g w w:=⟨rfl,rfl,rfl,Nat.le_refl _,fun _ _ _=>rfl⟩
theorem gD {g:Nat} {w W:World} (h:Gr g w W):Gr g w W.drew:=⟨h.os,h.tape,h.output,h.size,h.block⟩
theorem gDN {g:Nat} {w W:World} (h:Gr g w W) (n:Nat):Gr g w (W.drewN n):=⟨h.os,h.tape,h.output,h.size,h.block⟩
theorem gA {g:Nat} {w W:World} {o:Obj} (h:Gr g w W):Gr g w (W.alloc o):=⟨h.os,h.tape,h.output,Nat.le_trans h.size (by simp),fun k hk hn=>(Below.heap_alloc W o k (Nat.lt_of_lt_of_le hk h.size)).trans (h.block k hk hn)⟩
theorem gS {g:Nat} {w W:World} {p:Addr} {u:Value} (h:Gr g w W) (hp:p.block=g∨w.heap.size≤p.block):Gr g w (W.setCell p u) :=
  ⟨h.os,h.tape,h.output,by simpa [World.setCell] using h.size,fun k hk hn=>(Below.heap_setCell W p u k (by
    rintro rfl
    rcases hp with hp|hp
    · exact hn (by rw [hp])
    · omega)).trans (h.block k hk hn)⟩
theorem gT {g:Nat} {w W w1:World} (h:Gr g w W) (k:Gr g W w1):Gr g w w1 :=
  ⟨k.os.trans h.os,k.tape.trans h.tape,k.output.trans h.output,Nat.le_trans h.size k.size,fun i hi hn=>(k.block i (Nat.lt_of_lt_of_le hi h.size) hn).trans (h.block i hi hn)⟩
theorem bDN {B:Nat} {a w:World} (h:Below B a w) (n:Nat):Below B a (w.drewN n):=⟨h.os,h.tape,h.output,h.size,h.block⟩
theorem gCell {g b:Nat} {w w1:World} (h:Gr g w w1) (hb:b<w.heap.size) (hn:b≠g) (o:Nat):w1.cell? ⟨b,o,none⟩=w.cell? ⟨b,o,none⟩ :=
  World.cell?_of_block (h.block b hb (by simpa using hn))
theorem gFroz {g b:Nat} {w w1:World} (h:Gr g w w1) (hb:b<w.heap.size) (hn:b≠g) (o:Nat):w1.frozen? ⟨b,o,none⟩=w.frozen? ⟨b,o,none⟩ :=
  World.frozen?_of_block (h.block b hb (by simpa using hn))
theorem bG {g:Nat} {w W w1:World} (h:Below w.heap.size w W) (k:Gr g W w1) (hg:w.heap.size≤g):Below w.heap.size w w1 :=
  ⟨k.os.trans h.os,k.tape.trans h.tape,k.output.trans h.output,Nat.le_trans h.size k.size,fun i hi=>(k.block i (Nat.lt_of_lt_of_le hi h.size) (by simp;omega)).trans (h.block i hi)⟩
theorem gOfB {g:Nat} {w w1:World} (h:Below w.heap.size w w1):Gr g w w1:=⟨h.os,h.tape,h.output,h.size,fun i hi _=>h.block i hi⟩
/-- An own list through boxes that are made and written: shown by its shape. -/
theorem zO {w w0 W:World} {lo lo0:Nat} {e e0:TypeId} {k k0 m m0:Nat} {v:Value} {xs xs0:List Value} (h:w.ownsRow lo e k v m xs) (H0:w0.ownsRow lo0 e0 k0 v m0 xs0) (r:w.ownsRow lo e k v m xs→w0.ownsRow lo0 e0 k0 v m0 xs0→W.ownsRow lo e k v m xs:=by (intro zh zH;repeat first|with_reducible exact zh|with_reducible refine oAl ?_ _|with_reducible refine oDr ?_|((with_reducible first|refine own_store ?_ ?_ _|refine own_box ?_ ?_);rotate_left;focus first|(refine own_ne zH ?_;(try dsimp only);omega)|(refine own_ne' zH ?_;(try dsimp only);omega)))):W.ownsRow lo e k v m xs:=r h H0
theorem zP {w w0 W:World} {lo lo0:Nat} {e e0:TypeId} {k k0 m m0:Nat} {v:Value} {xs xs0:List Value} {p q:Nat} (h:w.ownsRow lo e k v m xs) (H0:w0.ownsRow lo0 e0 k0 v m0 xs0) (f:∀ j,p≤j→j<q→v.ownBlock≠some j) (r:w.ownsRow lo e k v m xs→w0.ownsRow lo0 e0 k0 v m0 xs0→(∀ j,p≤j→j<q→v.ownBlock≠some j)→W.ownsRow lo e k v m xs:=by (intro zh zH zf;repeat first|with_reducible exact zh|with_reducible refine oAl ?_ _|with_reducible refine oDr ?_|((with_reducible first|refine own_store ?_ ?_ _|refine own_box ?_ ?_);rotate_left;focus first|(refine own_ne zH ?_;(try dsimp only);omega)|(refine own_ne' zH ?_;(try dsimp only);omega)|exact zf _ (by (try dsimp only) <;> omega) (by (try dsimp only) <;> omega)))):W.ownsRow lo e k v m xs:=r h H0 f
end Go.Proofs.YtkiingmgpobgnaaGreat
set_option linter.unusedSimpArgs false
set_option linter.unusedVariables false
namespace Go.Proofs.YtkiingmgpobgnaaGreat
open Go.RowKit
/-- Block b begins with n elements of k cells each, none frozen; f says what each cell holds. -/
def Lie (w:World) (b n k:Nat) (f:Nat→Nat→Value):Prop :=
  ∃ (c:Array Value) (t:TypeId),w.heap[b]?=some (.cells c t (0,0))∧n*k≤c.size∧∀ i j,i<n→j<k→c[i*k+j]?=some (f i j)
namespace Lie
variable {w w':World} {b n k:Nat} {f g:Nat→Nat→Value}
theorem cell (h:Lie w b n k f) {i j:Nat} (hi:i<n) (hj:j<k):w.cell? ⟨b,i*k+j,none⟩=some (f i j):=by
  obtain ⟨c,t,hb,_,hc⟩:=h
  simp [World.cell?,hb,hc i j hi hj]
theorem frozen (h:Lie w b n k f) (o:Nat):w.frozen? ⟨b,o,none⟩=false:=by
  obtain ⟨c,t,hb,_,_⟩:=h
  simp [World.frozen?,hb]
theorem lt (h:Lie w b n k f):b<w.heap.size:=by
  obtain ⟨c,t,hb,_,_⟩:=h
  exact (Array.getElem?_eq_some_iff.1 hb).1
theorem congr (h:Lie w b n k f) (e:∀ i j,i<n→j<k→f i j=g i j):Lie w b n k g:=by
  obtain ⟨c,t,hb,hn,hc⟩:=h
  exact ⟨c,t,hb,hn,fun i j hi hj=>by rw [hc i j hi hj,e i j hi hj]⟩
theorem of_block (h:Lie w b n k f) (e:w'.heap[b]?=w.heap[b]?):Lie w' b n k f:=by
  obtain ⟨c,t,hb,hn,hc⟩:=h
  exact ⟨c,t,e.trans hb,hn,hc⟩
theorem below {B:Nat} (h:Lie w b n k f) (hb:Below B w w') (hB:b<B):Lie w' b n k f:=h.of_block (hb.block b hB)
theorem set (h:Lie w b n k f) {i j:Nat} (hi:i<n) (hj:j<k) (v:Value):Lie (w.setCell ⟨b,i*k+j,none⟩ v) b n k (fun i' j'=>if i'=i∧j'=j then v else f i' j'):=by
  obtain ⟨c,t,hb,hn,hc⟩:=h
  refine ⟨c.setIfInBounds (i*k+j) v,t,?_,by simpa using hn,fun i' j' hi' hj'=>?_⟩
  · simp [World.setCell,Array.getElem?_modify,hb]
  · rw [Array.getElem?_setIfInBounds]
    by_cases e:i*k+j=i'*k+j'
    · obtain ⟨rfl,rfl⟩:=Row.idx hj hj' e
      have hlt:i*k+j<c.size:=(Array.getElem?_eq_some_iff.1 (hc i j hi hj)).1
      simp [hlt]
    · rw [if_neg e]
      show c[i'*k+j']?=some (if i'=i∧j'=j then v else f i' j')
      rw [if_neg (fun h=>e (by rw [h.1,h.2]))]
      exact hc i' j' hi' hj'
theorem seg (h:Lie w b n k f):Seg w w.heap.size (some ⟨b,0,none⟩) n k f:=.inr ⟨b,0,rfl,h.lt,fun i j hi hj=>by simpa using h.cell hi hj⟩
end Lie
theorem Row.lie {w:World} {b:Nat} {t:TypeId} {n k:Nat} {f:Nat→Nat→Value} (h:Row w b t n k f):Lie w b n k f:=by
  obtain ⟨c,hb,hn,hc⟩:=h
  exact ⟨c,t,hb,Nat.le_of_eq hn.symm,hc⟩
/-- A list of n elements that is nothing, or lies from the start of a block on that is at or above lo. -/
def New (w:World) (lo:Nat) (v:Value) (n k:Nat) (f:Nat→Nat→Value):Prop :=
  (v=.slice none 0 0∧n=0)∨∃ g cap,v=.slice (some ⟨g,0,none⟩) n cap∧lo≤g∧Lie w g n k f
abbrev NewI (w:World) (lo:Nat) (v:Value) (l:List Int):Prop:=New w lo v l.length 1 (intF l)
abbrev NewC (w:World) (lo:Nat) (v:Value) (cs:List C3):Prop:=New w lo v cs.length 3 (cellF cs)
namespace New
variable {w w1:World} {lo n k:Nat} {v:Value} {f:Nat→Nat→Value}
theorem below (h:New w lo v n k f) (hb:Below w.heap.size w w1):New w1 lo v n k f:=by
  rcases h with h|⟨g,cap,h1,h2,h3⟩
  · exact .inl h
  · exact .inr ⟨g,cap,h1,h2,h3.below hb h3.lt⟩
theorem more {lo':Nat} (h:New w lo v n k f) (hl:lo'≤lo):New w lo' v n k f:=by
  rcases h with h|⟨g,cap,h1,h2,h3⟩
  · exact .inl h
  · exact .inr ⟨g,cap,h1,Nat.le_trans hl h2,h3⟩
theorem kept {row:Option Nat} (h:New w lo v n k f) (hg:w.grownBy w1 row) (hn:row=none∨v.ownBlock≠row):New w1 lo v n k f:=by
  rcases h with h|⟨g,cap,h1,h2,h3⟩
  · exact .inl h
  · refine .inr ⟨g,cap,h1,h2,h3.of_block (hg.block g h3.lt fun e=>?_)⟩
    subst h1
    rcases hn with rfl|hn
    · cases e
    · exact hn (by rw [← e];rfl)
theorem seg (h:New w lo v n k f):∃ a cap,v=.slice a n cap∧Seg w w.heap.size a n k f:=by
  rcases h with ⟨rfl,rfl⟩|⟨g,cap,rfl,_,h3⟩
  · exact ⟨none,0,rfl,.inl rfl⟩
  · exact ⟨_,cap,rfl,h3.seg⟩
theorem lt (h:New w lo v n k f) {b:Nat} (hb:v.ownBlock=some b):lo≤b∧b<w.heap.size:=by
  rcases h with ⟨rfl,_⟩|⟨g,cap,rfl,h2,h3⟩
  · cases hb
  · simp [Value.ownBlock] at hb
    subst hb
    exact ⟨h2,h3.lt⟩
end New
theorem OCells.new {w:World} {lo:Nat} {v:Value} {cs:List C3} (h:OCells w lo v cs):NewC w lo v cs:=by
  rcases h.2 with ⟨h1,h0⟩|⟨g,cap,cur,rfl,hl,hg,h4,h5,h6,h7⟩
  · exact .inl ⟨h1,h0⟩
  · refine .inr ⟨g,cap,rfl,hl,cur,_,hg,?_,fun i j hi hj=>?_⟩
    · have e:=congrArg List.length h7
      rw [List.length_take,flatC_len] at e
      simp at e;omega
    · have:=h.cells (g:=g) rfl (i*3+j) _ (flatC_get cs i j hi hj)
      have e2:(⟨g,0,none⟩:Addr).add (i*3+j)=⟨g,i*3+j,none⟩:=by generalize i*3+j=m;by_cases e:m=0 <;> simp [Addr.add,e]
      rw [e2] at this
      simpa [World.cell?,hg] using this
theorem OInts.new {w:World} {lo:Nat} {v:Value} {l:List Int} (h:OInts w lo v l):NewI w lo v l:=by
  rcases h.2 with ⟨h1,h0⟩|⟨g,cap,cur,rfl,hl,hg,h4,h5,h6,h7⟩
  · exact .inl ⟨h1,h0⟩
  · refine .inr ⟨g,cap,rfl,hl,cur,_,hg,?_,fun i j hi hj=>?_⟩
    · have e:=congrArg List.length h7
      rw [List.length_take,ints_len] at e
      simp at e;omega
    · have hj0:j=0:=by omega
      subst hj0
      have:=h.cells (g:=g) rfl i (intF l i 0) (by simp [ints,intF,List.getD,hi])
      have e2:(⟨g,0,none⟩:Addr).add i=⟨g,i,none⟩:=by by_cases e:i=0 <;> simp [Addr.add,e]
      rw [e2] at this
      simpa [World.cell?,hg] using this
/-- Of what was there, the blocks a and b alone may have turned. -/
def Onl (a b:Option Nat) (w w':World):Prop :=
  w'.os=w.os∧w'.tape=w.tape∧w'.output=w.output∧w.heap.size≤w'.heap.size∧∀ i,i<w.heap.size→some i≠a→some i≠b→w'.heap[i]?=w.heap[i]?
theorem onlB {a b:Option Nat} {w W:World} (h:Below w.heap.size w W):Onl a b w W:=⟨h.os,h.tape,h.output,h.size,fun i hi _ _=>h.block i hi⟩
theorem onlT {a b:Option Nat} {w W w1:World} (h:Onl a b w W) (k:Onl a b W w1):Onl a b w w1 :=
  ⟨k.1.trans h.1,k.2.1.trans h.2.1,k.2.2.1.trans h.2.2.1,Nat.le_trans h.2.2.2.1 k.2.2.2.1,fun i hi h1 h2=>(k.2.2.2.2 i (Nat.lt_of_lt_of_le hi h.2.2.2.1) h1 h2).trans (h.2.2.2.2 i hi h1 h2)⟩
theorem onl1 {a b:Option Nat} {w W:World} (h:w.grownBy W a):Onl a b w W:=⟨h.os,h.tape,h.output,h.size,fun i hi h1 _=>h.block i hi h1⟩
theorem onl2 {a b:Option Nat} {w W:World} (h:w.grownBy W b):Onl a b w W:=⟨h.os,h.tape,h.output,h.size,fun i hi _ h1=>h.block i hi h1⟩
/-- What turned nothing but a and b, both above, made memory only. -/
theorem bOnl {a b:Option Nat} {w W w1:World} (h:Below w.heap.size w W) (k:Onl a b W w1) (ha:∀ i,a=some i→w.heap.size≤i) (hb:∀ i,b=some i→w.heap.size≤i):Below w.heap.size w w1 :=
  ⟨k.1.trans h.os,k.2.1.trans h.tape,k.2.2.1.trans h.output,Nat.le_trans h.size k.2.2.2.1,fun i hi=>(k.2.2.2.2 i (Nat.lt_of_lt_of_le hi h.size) (fun e=>by have:=ha i e.symm;omega) (fun e=>by have:=hb i e.symm;omega)).trans (h.block i hi)⟩
theorem grCell {r:Option Nat} {b:Nat} {w w1:World} (h:w.grownBy w1 r) (hb:b<w.heap.size) (hn:some b≠r) (o:Nat):w1.cell? ⟨b,o,none⟩=w.cell? ⟨b,o,none⟩:=World.cell?_of_block (h.block b hb hn)
theorem grFroz {r:Option Nat} {b:Nat} {w w1:World} (h:w.grownBy w1 r) (hb:b<w.heap.size) (hn:some b≠r) (o:Nat):w1.frozen? ⟨b,o,none⟩=w.frozen? ⟨b,o,none⟩:=World.frozen?_of_block (h.block b hb hn)
theorem grB {w W w1:World} {r:Option Nat} (h:Below w.heap.size w W) (k:W.grownBy w1 r):w.grownBy w1 r :=
  ⟨k.os.trans h.os,k.tape.trans h.tape,k.output.trans h.output,Nat.le_trans h.size k.size,fun i hi hn=>(k.block i (Nat.lt_of_lt_of_le hi h.size) hn).trans (h.block i hi)⟩
end Go.Proofs.YtkiingmgpobgnaaGreat
set_option linter.unusedSimpArgs false
set_option linter.unusedVariables false
namespace Go.Proofs.YtkiingmgpobgnaaGreat
open Go.RowKit
/-- A hand as it lies in memory. -/
def hvals (h:Ha):Array Value:=#[.int .i64 h.pos,.int .i64 h.code,.int .i64 h.elem,.int .i64 h.cell,.int .i64 h.seen,.int .i64 h.wait,.int .i64 h.fin,.int .i64 h.come,.int .i64 h.grow,.int .i64 h.mine,.int .i64 h.nxt,.int .i64 h.beg,.int .i64 h.reply,.int .i64 h.out]
theorem hv_ne (h:Ha):(hvals h=#[])=False:=by simp [hvals]
theorem hv_size (h:Ha):(hvals h).size=14:=rfl
theorem hv_get0 (h:Ha):(hvals h)[0]?=some (.int .i64 h.pos):=rfl
theorem hv_set0 (h:Ha) (x:Int):(hvals h).setIfInBounds 0 (.int .i64 x)=hvals { h with pos:=x }:=rfl
theorem hv_get1 (h:Ha):(hvals h)[1]?=some (.int .i64 h.code):=rfl
theorem hv_set1 (h:Ha) (x:Int):(hvals h).setIfInBounds 1 (.int .i64 x)=hvals { h with code:=x }:=rfl
theorem hv_get2 (h:Ha):(hvals h)[2]?=some (.int .i64 h.elem):=rfl
theorem hv_set2 (h:Ha) (x:Int):(hvals h).setIfInBounds 2 (.int .i64 x)=hvals { h with elem:=x }:=rfl
theorem hv_get3 (h:Ha):(hvals h)[3]?=some (.int .i64 h.cell):=rfl
theorem hv_set3 (h:Ha) (x:Int):(hvals h).setIfInBounds 3 (.int .i64 x)=hvals { h with cell:=x }:=rfl
theorem hv_get4 (h:Ha):(hvals h)[4]?=some (.int .i64 h.seen):=rfl
theorem hv_set4 (h:Ha) (x:Int):(hvals h).setIfInBounds 4 (.int .i64 x)=hvals { h with seen:=x }:=rfl
theorem hv_get5 (h:Ha):(hvals h)[5]?=some (.int .i64 h.wait):=rfl
theorem hv_set5 (h:Ha) (x:Int):(hvals h).setIfInBounds 5 (.int .i64 x)=hvals { h with wait:=x }:=rfl
theorem hv_get6 (h:Ha):(hvals h)[6]?=some (.int .i64 h.fin):=rfl
theorem hv_set6 (h:Ha) (x:Int):(hvals h).setIfInBounds 6 (.int .i64 x)=hvals { h with fin:=x }:=rfl
theorem hv_get7 (h:Ha):(hvals h)[7]?=some (.int .i64 h.come):=rfl
theorem hv_set7 (h:Ha) (x:Int):(hvals h).setIfInBounds 7 (.int .i64 x)=hvals { h with come:=x }:=rfl
theorem hv_get8 (h:Ha):(hvals h)[8]?=some (.int .i64 h.grow):=rfl
theorem hv_set8 (h:Ha) (x:Int):(hvals h).setIfInBounds 8 (.int .i64 x)=hvals { h with grow:=x }:=rfl
theorem hv_get9 (h:Ha):(hvals h)[9]?=some (.int .i64 h.mine):=rfl
theorem hv_set9 (h:Ha) (x:Int):(hvals h).setIfInBounds 9 (.int .i64 x)=hvals { h with mine:=x }:=rfl
theorem hv_get10 (h:Ha):(hvals h)[10]?=some (.int .i64 h.nxt):=rfl
theorem hv_set10 (h:Ha) (x:Int):(hvals h).setIfInBounds 10 (.int .i64 x)=hvals { h with nxt:=x }:=rfl
theorem hv_get11 (h:Ha):(hvals h)[11]?=some (.int .i64 h.beg):=rfl
theorem hv_set11 (h:Ha) (x:Int):(hvals h).setIfInBounds 11 (.int .i64 x)=hvals { h with beg:=x }:=rfl
theorem hv_get12 (h:Ha):(hvals h)[12]?=some (.int .i64 h.reply):=rfl
theorem hv_set12 (h:Ha) (x:Int):(hvals h).setIfInBounds 12 (.int .i64 x)=hvals { h with reply:=x }:=rfl
theorem hv_get13 (h:Ha):(hvals h)[13]?=some (.int .i64 h.out):=rfl
theorem hv_set13 (h:Ha) (x:Int):(hvals h).setIfInBounds 13 (.int .i64 x)=hvals { h with out:=x }:=rfl
/-- A channel as it lies in memory, with its lists. -/
def cvals (c:Ch) (v1 v2:Value):Array Value:=#[.int .i64 c.cap,.int .i64 c.sent,.int .i64 c.got,.int .i64 c.fin,v1,v2]
theorem cv_ne (c:Ch) (v1 v2:Value):(cvals c v1 v2=#[])=False:=by simp [cvals]
theorem cv_size (c:Ch) (v1 v2:Value):(cvals c v1 v2).size=6:=rfl
theorem cv_get0 (c:Ch) (v1 v2:Value):(cvals c v1 v2)[0]?=some (.int .i64 c.cap):=rfl
theorem cv_set0 (c:Ch) (v1 v2:Value) (x:Int):(cvals c v1 v2).setIfInBounds 0 (.int .i64 x)=cvals { c with cap:=x } v1 v2:=rfl
theorem cv_get1 (c:Ch) (v1 v2:Value):(cvals c v1 v2)[1]?=some (.int .i64 c.sent):=rfl
theorem cv_set1 (c:Ch) (v1 v2:Value) (x:Int):(cvals c v1 v2).setIfInBounds 1 (.int .i64 x)=cvals { c with sent:=x } v1 v2:=rfl
theorem cv_get2 (c:Ch) (v1 v2:Value):(cvals c v1 v2)[2]?=some (.int .i64 c.got):=rfl
theorem cv_set2 (c:Ch) (v1 v2:Value) (x:Int):(cvals c v1 v2).setIfInBounds 2 (.int .i64 x)=cvals { c with got:=x } v1 v2:=rfl
theorem cv_get3 (c:Ch) (v1 v2:Value):(cvals c v1 v2)[3]?=some (.int .i64 c.fin):=rfl
theorem cv_set3 (c:Ch) (v1 v2:Value) (x:Int):(cvals c v1 v2).setIfInBounds 3 (.int .i64 x)=cvals { c with fin:=x } v1 v2:=rfl
theorem cv_get4 (c:Ch) (v1 v2:Value):(cvals c v1 v2)[4]?=some v1:=rfl
theorem cv_get5 (c:Ch) (v1 v2:Value):(cvals c v1 v2)[5]?=some v2:=rfl
theorem cv_set4 (c:Ch) (v1 v2 x:Value):(cvals c v1 v2).setIfInBounds 4 x=cvals c x v2:=rfl
theorem cv_set5 (c:Ch) (v1 v2 x:Value):(cvals c v1 v2).setIfInBounds 5 x=cvals c v1 x:=rfl
def setBoxO (vs:Array Value):Obj→Obj
  | .cells _ t fr=>.cells vs t fr
  | o=>o
def setCellO (i:Nat) (v:Value):Obj→Obj
  | .cells c t fr=>.cells (c.setIfInBounds i v) t fr
  | o=>o
/-- Block b is written whole. -/
def setBox (w:World) (b:Nat) (vs:Array Value):World:={ w with heap:=w.heap.modify b (setBoxO vs) }
/-- What lies in block b. -/
def hp (w:World) (b:Nat):Option Obj:=w.heap[b]?
def okO (n:Nat):Option Obj→Bool
  | some (.cells c _ fr)=>c.size == n && (fr.1 == 0 && fr.2 == 0)
  | _=>false
def cellsO:Option Obj→Array Value
  | some (.cells c _ _)=>c
  | _=>#[]
theorem setBoxO_cells (vs c:Array Value) (t:TypeId):setBoxO vs (.cells c t)=.cells vs t:=rfl
theorem setCellO_cells (i:Nat) (v:Value) (c:Array Value) (t:TypeId):setCellO i v (.cells c t)=.cells (c.setIfInBounds i v) t:=rfl
theorem okO_cells (n:Nat) (c:Array Value) (t:TypeId):okO n (some (.cells c t))=(c.size == n):=by simp [okO]
theorem cellsO_cells (c:Array Value) (t:TypeId):cellsO (some (.cells c t))=c:=rfl
theorem okO_elim {n:Nat} {o:Option Obj} (h:okO n o=true):∃ c t,o=some (.cells c t)∧c.size=n:=by
  unfold okO at h
  split at h
  · rename_i c t fr
    obtain ⟨f1,f2⟩:=fr
    simp at h
    obtain ⟨h1,rfl,rfl⟩:=h
    exact ⟨c,t,rfl,h1⟩
  · cases h
theorem lt_2 (n:Nat):n<n+1+1:=by omega
theorem lt_3 (n:Nat):n<n+1+1+1:=by omega
theorem lt_4 (n:Nat):n<n+1+1+1+1:=by omega
theorem lt_5 (n:Nat):n<n+1+1+1+1+1:=by omega
variable {w W:World} {b b' n i:Nat} {vs us:Array Value} {v:Value}
theorem bx_size:(setBox w b vs).heap.size=w.heap.size:=by simp [setBox]
theorem bx_heap_at:hp (setBox w b vs) b=(hp w b).map (setBoxO vs):=by simp [hp,setBox,Array.getElem?_modify]
theorem bx_heap_ne (h:b'≠b):(setBox w b vs).heap[b']?=w.heap[b']?:=by simp [setBox,Array.getElem?_modify,Ne.symm h]
theorem bx_heap_lt (h:b'<b):hp (setBox w b vs) b'=hp w b':=bx_heap_ne (by omega)
theorem bx_heap_gt (h:b<b'):hp (setBox w b vs) b'=hp w b':=bx_heap_ne (by omega)
theorem bx_cell_at (h:okO vs.size (hp w b)=true):(setBox w b vs).cell? ⟨b,i,none⟩=vs[i]?:=by
  obtain ⟨c,t,e,_⟩:=okO_elim h
  unfold hp at e
  simp [World.cell?,setBox,Array.getElem?_modify,e,setBoxO]
theorem bx_cell_ne (h:b'≠b):(setBox w b vs).cell? ⟨b',i,none⟩=w.cell? ⟨b',i,none⟩:=World.cell?_of_block (bx_heap_ne h)
theorem bx_cell_lt (h:b'<b):(setBox w b vs).cell? ⟨b',i,none⟩=w.cell? ⟨b',i,none⟩:=bx_cell_ne (by omega)
theorem bx_cell_gt (h:b<b'):(setBox w b vs).cell? ⟨b',i,none⟩=w.cell? ⟨b',i,none⟩:=bx_cell_ne (by omega)
theorem bx_frozen:(setBox w b vs).frozen? ⟨b',i,none⟩=w.frozen? ⟨b',i,none⟩:=by
  simp only [World.frozen?,setBox,Array.getElem?_modify]
  by_cases e:b=b'
  · subst e
    simp only [if_true]
    cases w.heap[b]? with
    | none=>rfl
    | some o=>cases o <;> rfl
  · simp [e]
theorem bx_alloc_at {c:Array Value} {t:TypeId} (hn:n=w.heap.size):setBox (w.alloc (.cells c t)) n vs=w.alloc (.cells vs t):=by
  subst hn
  unfold setBox World.alloc
  congr 1
  apply Array.ext_getElem?
  intro k
  simp only [Array.getElem?_modify,Array.getElem?_push]
  by_cases hk:k=w.heap.size
  · subst hk;simp [setBoxO]
  · simp [hk,Ne.symm hk]
theorem bx_alloc_past {o:Obj} (hn:n<w.heap.size):setBox (w.alloc o) n vs=(setBox w n vs).alloc o:=by
  unfold setBox World.alloc
  congr 1
  apply Array.ext_getElem?
  intro k
  simp only [Array.getElem?_modify,Array.getElem?_push,Array.size_modify]
  by_cases hk:k=w.heap.size
  · subst hk;simp [Nat.ne_of_lt hn]
  · simp [hk]
theorem bx_twice:setBox (setBox w b vs) b us=setBox w b us:=by
  unfold setBox
  congr 1
  apply Array.ext_getElem?
  intro k
  simp only [Array.getElem?_modify]
  by_cases e:b=k
  · subst e
    simp only [if_true]
    cases w.heap[b]? with
    | none=>rfl
    | some o=>cases o <;> rfl
  · simp [e]
theorem bx_setCell:(setBox w b vs).setCell ⟨b,i,none⟩ v=setBox w b (vs.setIfInBounds i v):=by
  unfold setBox World.setCell
  congr 1
  apply Array.ext_getElem?
  intro k
  simp only [Array.getElem?_modify]
  by_cases e:b=k
  · subst e
    simp only [if_true]
    cases w.heap[b]? with
    | none=>rfl
    | some o=>cases o <;> rfl
  · simp [e]
theorem bx_drew:setBox w.drew b vs=(setBox w b vs).drew:=rfl
theorem hp_drew:hp w.drew b=hp w b:=rfl
theorem hp_alloc_at {o:Obj} (hn:n=w.heap.size):hp (w.alloc o) n=some o:=by subst hn;exact heap_alloc_new w o
theorem hp_alloc_past {o:Obj} (hn:n<w.heap.size):hp (w.alloc o) n=hp w n:=Below.heap_alloc w o n hn
theorem hp_set_at:hp (w.setCell ⟨b,i,none⟩ v) b=(hp w b).map (setCellO i v):=by
  simp only [hp,World.setCell,Array.getElem?_modify]
  cases w.heap[b]? with
  | none=>simp
  | some o=>cases o <;> simp [setCellO]
theorem hp_set_lt (h:b'<b):hp (w.setCell ⟨b,i,none⟩ v) b'=hp w b':=Below.heap_setCell w _ v b' (by simp;omega)
theorem hp_set_gt (h:b<b'):hp (w.setCell ⟨b,i,none⟩ v) b'=hp w b':=Below.heap_setCell w _ v b' (by simp;omega)
theorem grHp {r:Option Nat} (h:w.grownBy W r) (hb:b<w.heap.size) (hn:some b≠r):hp W b=hp w b:=h.block b hb hn
theorem gQ {r:Option Nat} {w W:World} (h:w.grownBy W r) {b:Nat} (hn:some b≠r) (hb:b<w.heap.size:=by ((try simp) <;> omega)):hp W b=hp w b:=grHp h hb hn
theorem onlHp {r r':Option Nat} (h:Onl r r' w W) (hb:i<w.heap.size) (h1:some i≠r) (h2:some i≠r'):hp W i=hp w i:=h.2.2.2.2 i hb h1 h2
theorem bO {w:World} {b:Nat} {cs:Array Value} {t:TypeId} (h:hp w b=some (.cells cs t)):(∀ o,w.cell? ⟨b,o,none⟩=cs[o]?)∧(∀ o,w.frozen? ⟨b,o,none⟩=false)∧b<w.heap.size :=
  ⟨fun o=>cell_of_row w b o cs t _ h,fun o=>by have h2:w.heap[b]?=some (.cells cs t):=h;simp [World.frozen?,h2],(Array.getElem?_eq_some_iff.1 h).1⟩
theorem hpB (h:Below n w W) (hb:b<n):hp W b=hp w b:=h.block b hb
theorem hQ {n:Nat} {w W:World} (h:Below n w W) {b:Nat} (hb:b<n:=by ((try simp) <;> omega)):hp W b=hp w b:=hpB h hb
theorem q4 {n:Nat} {w W:World} (h:Below n w W) {b:Nat} (hb:b+1+1+1<n:=by ((try simp) <;> omega)):hp W (b+1+1+1)=hp w (b+1+1+1)∧hp W (b+1+1)=hp w (b+1+1)∧hp W (b+1)=hp w (b+1)∧hp W b=hp w b:=⟨hpB h (by omega),hpB h (by omega),hpB h (by omega),hpB h (by omega)⟩
theorem bBx {lo:Nat} (h:Below lo w W) (hb:lo≤b):Below lo w (setBox W b vs) :=
  ⟨h.os,h.tape,h.output,by rw [bx_size];exact h.size,fun k hk=>(bx_heap_ne (by omega)).trans (h.block k hk)⟩
theorem gBx {g:Nat} (h:Gr g w W) (hb:b=g∨w.heap.size≤b):Gr g w (setBox W b vs) :=
  ⟨h.os,h.tape,h.output,by rw [bx_size];exact h.size,fun k hk hn=>(bx_heap_ne (by rcases hb with hb|hb;exact fun e=>hn (by rw [e,hb]);omega)).trans (h.block k hk hn)⟩
theorem own_box {lo:Nat} {e:TypeId} {k m:Nat} {x:Value} {xs:List Value} (h:w.ownsRow lo e k x m xs) (hp:x.ownBlock≠some b):(setBox w b vs).ownsRow lo e k x m xs :=
  h.kept (row:=some b) ⟨rfl,rfl,rfl,by rw [bx_size];exact Nat.le_refl _,fun i _ hn=>bx_heap_ne (fun e=>hn (by rw [e]))⟩ (.inr hp)
theorem rowA {r:Option Nat} {o:Obj} (h:w.grownBy W r):w.grownBy (W.alloc o) r:=⟨h.os,h.tape,h.output,Nat.le_trans h.size (by simp),fun k hk hn=>(Below.heap_alloc W o k (Nat.lt_of_lt_of_le hk h.size)).trans (h.block k hk hn)⟩
theorem rowD {r:Option Nat} (h:w.grownBy W r):w.grownBy W.drew r:=⟨h.os,h.tape,h.output,h.size,h.block⟩
theorem rowS {r:Option Nat} {p:Addr} {u:Value} (h:w.grownBy W r) (hp:w.heap.size≤p.block):w.grownBy (W.setCell p u) r :=
  ⟨h.os,h.tape,h.output,by simpa [World.setCell] using h.size,fun k hk hn=>(Below.heap_setCell W p u k (by omega)).trans (h.block k hk hn)⟩
theorem rowX {r:Option Nat} (h:w.grownBy W r) (hb:w.heap.size≤b):w.grownBy (setBox W b vs) r :=
  ⟨h.os,h.tape,h.output,by rw [bx_size];exact h.size,fun k hk hn=>(bx_heap_ne (by omega)).trans (h.block k hk hn)⟩
theorem oA {r r':Option Nat} {o:Obj} (h:Onl r r' w W):Onl r r' w (W.alloc o) :=
  ⟨h.1,h.2.1,h.2.2.1,Nat.le_trans h.2.2.2.1 (by simp),fun k hk h1 h2=>(Below.heap_alloc W o k (Nat.lt_of_lt_of_le hk h.2.2.2.1)).trans (h.2.2.2.2 k hk h1 h2)⟩
theorem oD {r r':Option Nat} (h:Onl r r' w W):Onl r r' w W.drew:=h
theorem oS {r r':Option Nat} {p:Addr} {u:Value} (h:Onl r r' w W) (hp:w.heap.size≤p.block):Onl r r' w (W.setCell p u) :=
  ⟨h.1,h.2.1,h.2.2.1,by simpa [World.setCell] using h.2.2.2.1,fun k hk h1 h2=>(Below.heap_setCell W p u k (by omega)).trans (h.2.2.2.2 k hk h1 h2)⟩
theorem oX {r r':Option Nat} (h:Onl r r' w W) (hb:w.heap.size≤b):Onl r r' w (setBox W b vs) :=
  ⟨h.1,h.2.1,h.2.2.1,by rw [bx_size];exact h.2.2.2.1,fun k hk h1 h2=>(bx_heap_ne (by omega)).trans (h.2.2.2.2 k hk h1 h2)⟩
/- Loading and storing whole. -/
variable {P:Program} {T:TypeId}
theorem load_box (hA:∀ w,(isAgg T).run P w=.ok true w) (hS:∀ w,(sizeOf T).run P w=.ok n w) (h:okO n (hp w b)=true) :
    (loadVar T ⟨b,0,none⟩).run P w=.ok (.agg (cellsO (hp w b))) w:=by
  unfold hp at *
  obtain ⟨c,t,e,hc⟩:=okO_elim h
  have h1:(loadCells ⟨b,0,none⟩ c.toList.length).run P w=.ok c.toList.toArray w:=run_loadCells_list w ⟨b,0,none⟩ c.toList (fun j v hj=>by
    have e2:(⟨b,0,none⟩:Addr).add j=⟨b,j,none⟩:=by by_cases h0:j=0 <;> simp [Addr.add,h0]
    rw [e2]
    simp only [World.cell?,e]
    simpa using hj)
  simp only [Array.length_toList,hc] at h1
  rw [e,cellsO_cells]
  simp only [loadVar,Sem.run_bind,hA,hS,Result.andThen_ok,if_true,h1,Sem.run_pure]
theorem setCells_heap (b:Nat):∀ (l:List Value) (o:Nat) (w:World),w.setCells b o l={ w with heap:=w.heap.modify b (fun x=>match x with|.cells c t fr=>.cells ((l.zipIdx o).foldl (fun c p=>c.setIfInBounds p.2 p.1) c) t fr|x=>x) }
  | [],o,w=>by
    unfold World.setCells
    have e:w.heap.modify b (fun x=>match x with|.cells c t fr=>.cells ((([]:List Value).zipIdx o).foldl (fun c p=>c.setIfInBounds p.2 p.1) c) t fr|x=>x)=w.heap:=by
      apply Array.ext_getElem?
      intro k
      simp only [Array.getElem?_modify]
      by_cases e:b=k
      · subst e
        simp only [if_true]
        cases w.heap[b]? with
        | none=>rfl
        | some x=>cases x <;> rfl
      · simp [e]
    rw [e]
  | v :: l,o,w=>by
    unfold World.setCells
    rw [setCells_heap b l (o+1)]
    simp only [World.setCell]
    congr 1
    apply Array.ext_getElem?
    intro k
    simp only [Array.getElem?_modify]
    by_cases e:b=k
    · subst e
      simp only [if_true]
      cases w.heap[b]? with
      | none=>rfl
      | some x=>cases x <;> simp [List.zipIdx_cons]
    · simp [e]
theorem fold_get:∀ (l:List Value) (o:Nat) (c:Array Value) (k:Nat),o+l.length≤c.size→((l.zipIdx o).foldl (fun c p=>c.setIfInBounds p.2 p.1) c)[k]?=if o≤k∧k<o+l.length then l[k - o]? else c[k]?
  | [],o,c,k,_=>by
    have:¬ (o≤k∧k<o+([]:List Value).length):=by simp
    rw [if_neg this];rfl
  | v :: l,o,c,k,h=>by
    simp only [List.zipIdx_cons,List.foldl_cons,List.length_cons] at *
    rw [fold_get l (o+1) _ k (by rw [Array.size_setIfInBounds];omega)]
    by_cases e:k=o
    · subst e
      rw [if_neg (by omega),if_pos (by omega),Array.getElem?_setIfInBounds,if_pos rfl,if_pos (by omega)];simp
    · by_cases e2:o+1≤k∧k<o+1+l.length
      · rw [if_pos e2,if_pos (by omega)]
        obtain ⟨m,rfl⟩:∃ m,k=o+1+m:=⟨k - (o+1),by omega⟩
        rw [show o+1+m - (o+1)=m by omega,show o+1+m - o=m+1 by omega];rfl
      · rw [if_neg e2,if_neg (by omega),Array.getElem?_setIfInBounds,if_neg (fun h=>e h.symm)]
theorem fold_all (vs c:Array Value) (h:c.size=vs.size):((vs.toList.zipIdx 0).foldl (fun c p=>c.setIfInBounds p.2 p.1) c)=vs:=by
  apply Array.ext_getElem?
  intro k
  rw [fold_get _ _ _ _ (by simp;omega)]
  by_cases e:k<vs.size
  · rw [if_pos (by simp;omega)];simp
  · rw [if_neg (by simp;omega),Array.getElem?_eq_none (by omega),Array.getElem?_eq_none (by omega)]
theorem store_cells (h:okO n (hp w b)=true) (hv:vs.size=n) (h1:∀ v ∈ vs.toList,v.oneCell'=true) :
    (storeCells ⟨b,0,none⟩ vs.toList).run P w=.ok () (setBox w b vs):=by
  unfold hp at h
  obtain ⟨c,t,e,hc⟩:=okO_elim h
  have h2:=run_storeCells_cells (P:=P) b 0 vs.toList 0 w (fun j hj=>by
      have:j<c.size:=by rw [hc,← hv];simpa using hj
      simp [World.cell?,e,this]) (fun j hj=>by simp [World.frozen?,e]) h1
  have h3:w.setCells b (0+0) vs.toList=setBox w b vs:=by
    rw [setCells_heap]
    unfold setBox
    congr 1
    apply Array.ext_getElem?
    intro k
    simp only [Array.getElem?_modify]
    by_cases ek:b=k
    · subst ek
      simp only [if_true,e,Option.map_some,setBoxO]
      rw [fold_all vs c (by omega)]
    · simp [ek]
  rw [h3] at h2
  exact h2
theorem store_box (hS:∀ w,(sizeOf T).run P w=.ok n w) (h:okO n (hp w b)=true) (hv:vs.size=n) (h1:∀ v ∈ vs.toList,v.oneCell'=true) :
    (storeVar T ⟨b,0,none⟩ (.agg vs)).run P w=.ok () (setBox w b vs):=by
  have h2:=store_cells (P:=P) h hv h1
  simp only [storeVar,Sem.run_bind,hS,Result.andThen_ok,Value.cells,hv,ne_eq,not_true_eq_false,if_false]
  simpa using h2
/- Results that lie in memory. -/
variable {fn:Func} {p q u:Tmp} {S:TypeId} {tmps:Array Value} {a a':Addr} {x y:Value}
theorem res_c (h:fn.results=#[.cell p T]) (hp:tmps.getD p undef=.pointer (some a)) (hl:(loadVar T a).run P w=.ok x w):(results fn tmps).run P w=.ok x w:=by
  simp only [results,h]
  simp [Sem.run_bind,Result.andThen,asAddr] at *
  simp [hp,hl]
theorem res_ct (h:fn.results=#[.cell p T,.tmp u]) (hp:tmps.getD p undef=.pointer (some a)) (hl:(loadVar T a).run P w=.ok x w):(results fn tmps).run P w=.ok (.tuple #[x,tmps.getD u undef]) w:=by
  simp only [results,h]
  simp [Sem.run_bind,Result.andThen,asAddr] at *
  simp [hp,hl]
theorem res_cc (h:fn.results=#[.cell p T,.cell q S]) (hp:tmps.getD p undef=.pointer (some a)) (hl:(loadVar T a).run P w=.ok x w) (hp':tmps.getD q undef=.pointer (some a')) (hl':(loadVar S a').run P w=.ok y w):(results fn tmps).run P w=.ok (.tuple #[x,y]) w:=by
  simp only [results,h]
  simp [Sem.run_bind,Result.andThen,asAddr] at *
  simp [hp,hl,hp',hl']
theorem res_cct (h:fn.results=#[.cell p T,.cell q S,.tmp u]) (hp:tmps.getD p undef=.pointer (some a)) (hl:(loadVar T a).run P w=.ok x w) (hp':tmps.getD q undef=.pointer (some a')) (hl':(loadVar S a').run P w=.ok y w):(results fn tmps).run P w=.ok (.tuple #[x,y,tmps.getD u undef]) w:=by
  simp only [results,h]
  simp [Sem.run_bind,Result.andThen,asAddr] at *
  simp [hp,hl,hp',hl']
end Go.Proofs.YtkiingmgpobgnaaGreat
set_option linter.unusedSimpArgs false
set_option linter.unusedVariables false
namespace Go.Proofs.YtkiingmgpobgnaaGreat
open Go.RowKit
theorem infoHand:(Tryz.prog.info? 31).map (fun i=>(i.zero,i.size,i.bytes))=some (some (.agg (hvals Ha.zero)),14,112):=by kernel_rfl
theorem infoChan:(Tryz.prog.info? 27).map (fun i=>(i.zero,i.size,i.bytes))=some (some (.agg (cvals Ch.zero (.slice none 0 0) (.slice none 0 0))),6,80):=by kernel_rfl
theorem zeroHand (w:World):(zeroValue 31).run Tryz.prog w=.ok (.agg (hvals Ha.zero)) w:=by
  obtain ⟨i,hi,hz,_⟩:=info_parts infoHand
  have e:Tryz.prog.info? 31=some Tryz.t31:=by kernel_rfl
  obtain rfl:Tryz.t31=i:=by rw [e] at hi;exact Option.some.inj hi
  simp [zeroValue,go_sem,hz]
theorem zeroChan (w:World):(zeroValue 27).run Tryz.prog w=.ok (.agg (cvals Ch.zero (.slice none 0 0) (.slice none 0 0))) w:=by
  obtain ⟨i,hi,hz,_⟩:=info_parts infoChan
  have e:Tryz.prog.info? 27=some Tryz.t27:=by kernel_rfl
  obtain rfl:Tryz.t27=i:=by rw [e] at hi;exact Option.some.inj hi
  simp [zeroValue,go_sem,hz]
theorem aggHand (w:World):(isAgg 31).run Tryz.prog w=.ok true w:=by simp [isAgg,go_sem]
theorem aggChan (w:World):(isAgg 27).run Tryz.prog w=.ok true w:=by simp [isAgg,go_sem]
theorem szHand (w:World):(sizeOf 31).run Tryz.prog w=.ok 14 w:=by simp [go_sem]
theorem szChanT (w:World):(sizeOf 27).run Tryz.prog w=.ok 6 w:=by simp [go_sem]
variable {w:World} {b:Nat}
theorem loadHandV (h:okO 14 (hp w b)=true):(loadVar 31 ⟨b,0,none⟩).run Tryz.prog w=.ok (.agg (cellsO (hp w b))) w:=load_box aggHand szHand h
theorem loadChanV (h:okO 6 (hp w b)=true):(loadVar 27 ⟨b,0,none⟩).run Tryz.prog w=.ok (.agg (cellsO (hp w b))) w:=load_box aggChan szChanT h
theorem loadHand (h:okO 14 (hp w b)=true):(Instr.loadAt 31 (.pointer (some ⟨b,0,none⟩))).run Tryz.prog w=.ok (.agg (cellsO (hp w b))) w:=by
  simp only [Instr.loadAt,Instr.sureAddr,Sem.run_bind,Sem.run_pure,Result.andThen_ok,loadHandV h]
theorem loadChan (h:okO 6 (hp w b)=true):(Instr.loadAt 27 (.pointer (some ⟨b,0,none⟩))).run Tryz.prog w=.ok (.agg (cellsO (hp w b))) w:=by
  simp only [Instr.loadAt,Instr.sureAddr,Sem.run_bind,Sem.run_pure,Result.andThen_ok,loadChanV h]
theorem storeHand (x:Ha) (h:okO 14 (hp w b)=true):(Instr.storeAt 31 (.pointer (some ⟨b,0,none⟩)) (.agg (hvals x))).run Tryz.prog w=.ok () (setBox w b (hvals x)):=by
  simp only [Instr.storeAt,Instr.sureAddr,Sem.run_bind,Sem.run_pure,Result.andThen_ok]
  exact store_box szHand h rfl (by simp [hvals,Value.oneCell'])
theorem storeChan (c:Ch) (x y:Option Addr) (n p m q:Nat) (h:okO 6 (hp w b)=true):(Instr.storeAt 27 (.pointer (some ⟨b,0,none⟩)) (.agg (cvals c (.slice x n p) (.slice y m q)))).run Tryz.prog w=.ok () (setBox w b (cvals c (.slice x n p) (.slice y m q))):=by
  simp only [Instr.storeAt,Instr.sureAddr,Sem.run_bind,Sem.run_pure,Result.andThen_ok]
  exact store_box szChanT h rfl (by simp [cvals,Value.oneCell'])
theorem storeHandC (x:Ha) (h:okO 14 (hp w b)=true):(storeCells ⟨b,0,none⟩ (hvals x).toList).run Tryz.prog w=.ok () (setBox w b (hvals x)):=store_cells h rfl (by simp [hvals,Value.oneCell'])
theorem storeChanC (c:Ch) (x y:Option Addr) (n p m q:Nat) (h:okO 6 (hp w b)=true):(storeCells ⟨b,0,none⟩ (cvals c (.slice x n p) (.slice y m q)).toList).run Tryz.prog w=.ok () (setBox w b (cvals c (.slice x n p) (.slice y m q))):=store_cells h rfl (by simp [cvals,Value.oneCell'])
/-- Loading whole, as one word. -/
def LHand (x:Value):Sem Value:=Instr.loadAt 31 x
def VHand (x:Addr):Sem Value:=loadVar 31 x
theorem toLHand (x:Value):Instr.loadAt 31 x=LHand x:=by unfold LHand;simp
theorem toVHand (x:Addr):loadVar 31 x=VHand x:=by unfold VHand;simp
theorem runLHand (h:okO 14 (hp w b)=true):(LHand (.pointer (some ⟨b,0,none⟩))).run Tryz.prog w=.ok (.agg (cellsO (hp w b))) w:=loadHand h
theorem runVHand (h:okO 14 (hp w b)=true):(VHand ⟨b,0,none⟩).run Tryz.prog w=.ok (.agg (cellsO (hp w b))) w:=loadHandV h
/-- Loading whole, as one word. -/
def LChan (x:Value):Sem Value:=Instr.loadAt 27 x
def VChan (x:Addr):Sem Value:=loadVar 27 x
theorem toLChan (x:Value):Instr.loadAt 27 x=LChan x:=by unfold LChan;simp
theorem toVChan (x:Addr):loadVar 27 x=VChan x:=by unfold VChan;simp
theorem runLChan (h:okO 6 (hp w b)=true):(LChan (.pointer (some ⟨b,0,none⟩))).run Tryz.prog w=.ok (.agg (cellsO (hp w b))) w:=loadChan h
theorem runVChan (h:okO 6 (hp w b)=true):(VChan ⟨b,0,none⟩).run Tryz.prog w=.ok (.agg (cellsO (hp w b))) w:=loadChanV h
theorem ldHand (x:Ha) (h:hp w b=some (.cells (hvals x) 31)):(loadVar 31 ⟨b,0,none⟩).run Tryz.prog w=.ok (.agg (hvals x)) w:=by
  have:=loadHandV (w:=w) (b:=b) (by rw [h];simp [okO,hv_size])
  rw [h] at this
  exact this
theorem ldChan (c:Ch) (x y:Value) (h:hp w b=some (.cells (cvals c x y) 27)):(loadVar 27 ⟨b,0,none⟩).run Tryz.prog w=.ok (.agg (cvals c x y)) w:=by
  have:=loadChanV (w:=w) (b:=b) (by rw [h];simp [okO,cv_size])
  rw [h] at this
  exact this
attribute [go_sem] runLHand runVHand bx_size bx_heap_at bx_heap_lt bx_heap_gt bx_cell_at bx_cell_lt bx_cell_gt bx_frozen bx_alloc_at bx_alloc_past bx_twice bx_setCell bx_drew hp_drew hp_alloc_at hp_alloc_past hp_set_at hp_set_lt hp_set_gt okO_cells cellsO_cells setBoxO_cells setCellO_cells Option.map_some lt_2 lt_3 lt_4 lt_5 hv_ne hv_size hv_get0 hv_set0 hv_get1 hv_set1 hv_get2 hv_set2 hv_get3 hv_set3 hv_get4 hv_set4 hv_get5 hv_set5 hv_get6 hv_set6 hv_get7 hv_set7 hv_get8 hv_set8 hv_get9 hv_set9 hv_get10 hv_set10 hv_get11 hv_set11 hv_get12 hv_set12 hv_get13 hv_set13
attribute [go_sem] runLChan runVChan cv_ne cv_size cv_get0 cv_set0 cv_get1 cv_set1 cv_get2 cv_set2 cv_get3 cv_set3 cv_get4 cv_set4 cv_get5 cv_set5
end Go.Proofs.YtkiingmgpobgnaaGreat
set_option linter.unusedSimpArgs false
set_option linter.unusedVariables false
namespace Go.Proofs.YtkiingmgpobgnaaGreat
open Go.RowKit
def dvals (d:De):Array Value:=#[.int .i64 d.task,.int .i64 d.code,.int .i64 d.elem,.int .i64 d.beg,.int .i64 d.fin,.int .i64 d.reply,.int .i64 d.out]
def flatH (hs:List Ha):List Value:=hs.flatMap fun h=>(hvals h).toList
def flatD (ds:List De):List Value:=ds.flatMap fun d=>(dvals d).toList
def handF (hs:List Ha) (i j:Nat):Value:=(hvals (hs.getD i Ha.zero)).getD j (.int .i64 0)
def dealF (ds:List De) (i j:Nat):Value:=(dvals (ds.getD i De.zero)).getD j (.int .i64 0)
theorem flatH_len (hs:List Ha):(flatH hs).length=hs.length*14:=by
  induction hs with
  | nil=>rfl
  | cons c cs ih=>simp [flatH,hvals] at *;omega
theorem flatD_len (ds:List De):(flatD ds).length=ds.length*7:=by
  induction ds with
  | nil=>rfl
  | cons c cs ih=>simp [flatD,dvals] at *;omega
theorem flatH_get:∀ (hs:List Ha) (i j:Nat),i<hs.length→j<14→(flatH hs)[i*14+j]?=some (handF hs i j)
  | [],i,j,hi,_=>by simp at hi
  | c :: cs,0,j,_,hj=>by
    have e:flatH (c :: cs)=(hvals c).toList ++ flatH cs:=by simp [flatH]
    rw [e,List.getElem?_append_left (by simp [hv_size];omega)]
    simp [handF,Array.getD,hv_size,hj]
  | c :: cs,i+1,j,hi,hj=>by
    have h:=flatH_get cs i j (by simpa using hi) hj
    have e:flatH (c :: cs)=(hvals c).toList ++ flatH cs:=by simp [flatH]
    rw [e,List.getElem?_append_right (by simp [hv_size];omega)]
    have e2:(i+1)*14+j - (hvals c).toList.length=i*14+j:=by simp [hv_size];omega
    rw [e2,h]
    simp [handF]
theorem flatD_get:∀ (hs:List De) (i j:Nat),i<hs.length→j<7→(flatD hs)[i*7+j]?=some (dealF hs i j)
  | [],i,j,hi,_=>by simp at hi
  | c :: cs,0,j,_,hj=>by
    have e:flatD (c :: cs)=(dvals c).toList ++ flatD cs:=by simp [flatD]
    rw [e,List.getElem?_append_left (by simp [dvals];omega)]
    simp [dealF,Array.getD,dvals,hj]
  | c :: cs,i+1,j,hi,hj=>by
    have h:=flatD_get cs i j (by simpa using hi) hj
    have e:flatD (c :: cs)=(dvals c).toList ++ flatD cs:=by simp [flatD]
    rw [e,List.getElem?_append_right (by simp [dvals];omega)]
    have e2:(i+1)*7+j - (dvals c).toList.length=i*7+j:=by simp [dvals];omega
    rw [e2,h]
    simp [dealF]
theorem flatH_one (hs:List Ha):∀ u ∈ flatH hs,u.oneCell'=true:=by
  intro u hu
  simp only [flatH,List.mem_flatMap] at hu
  obtain ⟨c,_,hc⟩:=hu
  simp [hvals] at hc
  rcases hc with rfl|rfl|rfl|rfl|rfl|rfl|rfl|rfl|rfl|rfl|rfl|rfl|rfl|rfl <;> rfl
theorem flatD_one (hs:List De):∀ u ∈ flatD hs,u.oneCell'=true:=by
  intro u hu
  simp only [flatD,List.mem_flatMap] at hu
  obtain ⟨c,_,hc⟩:=hu
  simp [dvals] at hc
  rcases hc with rfl|rfl|rfl|rfl|rfl|rfl|rfl <;> rfl
/-- A list of hands, of deals, of the call's own. -/
abbrev OHands (w:World) (lo:Nat) (v:Value) (hs:List Ha):Prop:=w.ownsRow lo 31 14 v hs.length (flatH hs)
abbrev ODeals (w:World) (lo:Nat) (v:Value) (ds:List De):Prop:=w.ownsRow lo 116 7 v ds.length (flatD ds)
theorem own_seg {w:World} {lo:Nat} {t:TypeId} {n k:Nat} {v:Value} {xs:List Value} {f:Nat→Nat→Value} (h:w.ownsRow lo t k v n xs) (hf:∀ i j,i<n→j<k→xs[i*k+j]?=some (f i j)):∃ (a:Option Addr) (cap:Nat),v=.slice a n cap∧Seg w w.heap.size a n k f:=by
  rcases h.2 with ⟨rfl,h0⟩|⟨g,cap,cur,rfl,_,hg,_⟩
  · exact ⟨none,0,by rw [h0],.inl h0⟩
  · refine ⟨_,cap,rfl,.inr ⟨g,0,rfl,(Array.getElem?_eq_some_iff.1 hg).1,fun i j hi hj=>?_⟩⟩
    have:=h.cells (g:=g) rfl (i*k+j) _ (hf i j hi hj)
    rw [← this]
    congr 1
    by_cases e:i*k+j=0 <;> simp [Addr.add,e] <;> omega
theorem OHands.seg {w:World} {lo:Nat} {v:Value} {hs:List Ha} (h:OHands w lo v hs):∃ (a:Option Addr) (cap:Nat),v=.slice a hs.length cap∧Seg w w.heap.size a hs.length 14 (handF hs):=own_seg h fun i j hi hj=>flatH_get hs i j hi hj
theorem ODeals.seg {w:World} {lo:Nat} {v:Value} {ds:List De} (h:ODeals w lo v ds):∃ (a:Option Addr) (cap:Nat),v=.slice a ds.length cap∧Seg w w.heap.size a ds.length 7 (dealF ds):=own_seg h fun i j hi hj=>flatD_get ds i j hi hj
variable {w:World} {b o:Nat}
/-- A hand that lies in a list is loaded whole. -/
theorem ldHandE (x:Ha) (h:∀ j,j<14→w.cell? ⟨b,o+j,none⟩=some ((hvals x).getD j (.int .i64 0))):(LHand (.pointer (some ⟨b,o,none⟩))).run Tryz.prog w=.ok (.agg (hvals x)) w:=by
  have h0:=h 0 (by omega)
  have h1:=h 1 (by omega)
  have h2:=h 2 (by omega)
  have h3:=h 3 (by omega)
  have h4:=h 4 (by omega)
  have h5:=h 5 (by omega)
  have h6:=h 6 (by omega)
  have h7:=h 7 (by omega)
  have h8:=h 8 (by omega)
  have h9:=h 9 (by omega)
  have h10:=h 10 (by omega)
  have h11:=h 11 (by omega)
  have h12:=h 12 (by omega)
  have h13:=h 13 (by omega)
  simp [hvals,Array.getD] at h0 h1 h2 h3 h4 h5 h6 h7 h8 h9 h10 h11 h12 h13
  simp [LHand,hvals,go_sem, *]
end Go.Proofs.YtkiingmgpobgnaaGreat
set_option linter.unusedSimpArgs false
set_option linter.unusedVariables false
namespace Go.Proofs.YtkiingmgpobgnaaGreat
open Go.RowKit
set_option maxHeartbeats 400000 in
theorem l1In_any (n m k:Int) (w:World):Calls Tryz.prog 60 #[.int .i64 n,.int .i64 m,.int .i64 k] w fun e w'=>e=.returned (.bool (inB n m k))∧w=w':=by
  go_enter Tryz.func60,Tryz.ntmps60
  go_wp2
  all_goals go_ret
  · exact ⟨ret_bool (inB_lo ‹_›),rfl⟩
  · exact ⟨ret_bool (inB_no (.inl ‹_›)).symm,rfl⟩
set_option maxHeartbeats 400000 in
theorem l1State_any (n:Int) (w:World):Calls Tryz.prog 100 #[.int .i64 n] w fun r w'=>r=.returned (.bool (inB n 0 10))∧w=w':=by
  go_enter Tryz.func100,Tryz.ntmps100
  go_wp2_with (go_at_call 60;refine (l1In_any _ _ _ _).mono ?_;rintro _ _ ⟨rfl,rfl⟩)
  go_ret
  exact ⟨rfl,rfl⟩
set_option maxHeartbeats 400000 in
theorem l1Elem_any (n:Int) (w:World):Calls Tryz.prog 63 #[.int .i64 n] w fun r w'=>r=.returned (.bool (inB n 0 999))∧w=w':=by
  go_enter Tryz.func63,Tryz.ntmps63
  go_wp2_with (go_at_call 60;refine (l1In_any _ _ _ _).mono ?_;rintro _ _ ⟨rfl,rfl⟩)
  go_ret
  exact ⟨rfl,rfl⟩
set_option maxHeartbeats 400000 in
theorem sCellOk_any (s e t:Int) (w:World):Calls Tryz.prog 62 #[.agg #[.int .i64 s,.int .i64 e,.int .i64 t]] w fun r w'=>r=.returned (.bool (cellB s e t))∧Below w.heap.size w w':=by
  go_enter Tryz.func62,Tryz.ntmps62
  go_wp2_with (first|(go_at_call 100;refine (l1State_any _ _).mono ?_;rintro _ _ ⟨rfl,rfl⟩)|(go_at_call 63;refine (l1Elem_any _ _).mono ?_;rintro _ _ ⟨rfl,rfl⟩)|(go_at_call 60;refine (l1In_any _ _ _ _).mono ?_;rintro _ _ ⟨rfl,rfl⟩))
  all_goals go_ret
  all_goals refine ⟨ret_bool ?_,by exact zB⟩
  · exact cellB_3 ‹_› ‹_›
  · exact cellB_2 ‹_›
  · exact cellB_1 ‹_›
end Go.Proofs.YtkiingmgpobgnaaGreat
set_option linter.unusedSimpArgs false
set_option linter.unusedVariables false
namespace Go.Proofs.YtkiingmgpobgnaaGreat
open Go.RowKit
set_option maxRecDepth 100000 in
set_option maxHeartbeats 400000 in
theorem sCallOk_any (k e:Int) (w:World):Calls Tryz.prog 99 #[.agg #[.int .i64 k,.int .i64 e]] w fun r w'=>r=.returned (.bool (callOk k e))∧Below w.heap.size w w':=by
  go_enter Tryz.func99,Tryz.ntmps99
  go_wp2_with (go_at_call 63;refine (l1Elem_any _ _).mono ?_;rintro _ _ ⟨rfl,rfl⟩)
  all_goals go_ret
  all_goals exact ⟨ret_bool (by simp_all [callOk]),by exact zB⟩
set_option maxRecDepth 100000 in
set_option maxHeartbeats 400000 in
theorem sReplyOk_any (k e x:Int) (w:World):Calls Tryz.prog 86 #[.agg #[.int .i64 k,.int .i64 e],.int .i64 x] w fun r w'=>r=.returned (.bool (replyOk k e x))∧Below w.heap.size w w':=by
  go_enter Tryz.func86,Tryz.ntmps86
  go_wp2_with (first|(go_at_call 99;refine (sCallOk_any _ _ _).mono ?_;rintro _ w1 ⟨rfl,hbw1⟩;have hBw1:Below w.heap.size w w1:=bT (by exact zB) hbw1;have hsw1:=hbw1.size;(try (simp at hsw1));have:=fun o=>hbw1.cell (p:=⟨w.heap.size,o,none⟩) (by ((try simp);(try omega)));have:=fun o=>hbw1.frozen (p:=⟨w.heap.size,o,none⟩) (by ((try simp);(try omega)));have:w.heap.size<w1.heap.size:=(by omega);have:w.heap.size≤w1.heap.size:=(by omega);have:w.heap.size≤w1.heap.size+1:=(by omega))|(go_at_call 60;refine (l1In_any _ _ _ _).mono ?_;rintro _ _ ⟨rfl,rfl⟩))
  all_goals go_ret
  all_goals exact ⟨ret_bool (by simp_all [replyOk]),by exact zB⟩
set_option maxRecDepth 100000 in
theorem l4None_any (k e:Int) (w:World):Calls Tryz.prog 98 #[.agg #[.int .i64 k,.int .i64 e]] w fun r w'=>r=.returned (.bool (noCall k e))∧Below w.heap.size w w':=by
  go_enter Tryz.func98,Tryz.ntmps98
  go_wp2
  all_goals go_ret
  all_goals exact ⟨ret_bool (by simp_all [noCall]),by exact zB⟩
end Go.Proofs.YtkiingmgpobgnaaGreat
set_option linter.unusedSimpArgs false
set_option linter.unusedVariables false
namespace Go.Proofs.YtkiingmgpobgnaaGreat
open Go.RowKit
set_option maxHeartbeats 400000 in
theorem l2Count_any (n:Int) (w:World):Calls Tryz.prog 97 #[.int .i64 n] w fun r w'=>r=.returned (.bool (inB n 0 40))∧w=w':=by
  go_enter Tryz.func97,Tryz.ntmps97
  go_wp2_with (go_at_call 60;refine (l1In_any _ _ _ _).mono ?_;rintro _ _ ⟨rfl,rfl⟩)
  go_ret
  exact ⟨rfl,rfl⟩
/-- Where the head of a channel is not right. -/
theorem head_no (cap sent got fin:Int) (cells:List C3) (words:List Int) (h:chanHead ⟨cap,sent,got,fin,cells,words⟩=false):false=chanOk ⟨cap,sent,got,fin,cells,words⟩:=by simp [chanOk,h]
theorem head_yes {cap sent got fin:Int} {cells:List C3} {words:List Int} (h:chanHead ⟨cap,sent,got,fin,cells,words⟩=true) :
    inB cap 0 4=true∧inB sent 0 40=true∧inB got 0 40=true∧inB fin 0 40=true∧cells.length=40∧words.length≤80:=by
  simpa [chanHead] using h
theorem sChanOk_no (cap sent got fin:Int) (cells:List C3) (words:List Int) (a b:Option Addr) (p q:Nat) (w:World) (h:chanHead ⟨cap,sent,got,fin,cells,words⟩=false) :
    Calls Tryz.prog 58 #[.agg #[.int .i64 cap,.int .i64 sent,.int .i64 got,.int .i64 fin,.slice a cells.length p,.slice b words.length q]] w fun r w'=>r=.returned (.bool (chanOk ⟨cap,sent,got,fin,cells,words⟩))∧Below w.heap.size w w':=by
  rw [← head_no _ _ _ _ _ _ h]
  have H:=Lib.hid h
  clear h
  go_enter Tryz.func58,Tryz.ntmps58
  go_wp2_with (first|(go_at_call 60;refine (l1In_any _ _ _ _).mono ?_;rintro _ _ ⟨rfl,rfl⟩)|(go_at_call 97;refine (l2Count_any _ _).mono ?_;rintro _ _ ⟨rfl,rfl⟩))
  all_goals first|(go_ret;exact ⟨rfl,by exact zB⟩)|skip
  exfalso
  have h:=H.out
  simp [chanHead, *] at h
  omega
theorem chan_bad1 {cap sent got fin:Int} {cells:List C3} {words:List Int} {k:Nat} {c:C3} (hk:k<cells.length) (hc:cells.getD k ⟨0,0,0⟩=c) (h:cellFits words.length c=false):false=chanOk ⟨cap,sent,got,fin,cells,words⟩:=by
  have:cells.all (cellFits words.length)=false:=by
    rw [List.all_eq_false]
    refine ⟨cells[k],List.getElem_mem hk,?_⟩
    rw [← hc] at h
    simpa [List.getD,List.getElem?_eq_getElem hk] using h
  simp [chanOk,this]
theorem chan_bad2 {cap sent got fin:Int} {cells:List C3} {words:List Int} {k:Nat} {x:Int} (hk:k<words.length) (hc:words.getD k 0=x) (h:inB x 0 2=false):false=chanOk ⟨cap,sent,got,fin,cells,words⟩:=by
  have:words.all (fun x=>inB x 0 2)=false:=by
    rw [List.all_eq_false]
    refine ⟨words[k],List.getElem_mem hk,?_⟩
    rw [← hc] at h
    simpa [List.getD,List.getElem?_eq_getElem hk] using h
  simp [chanOk,this]
theorem words_snoc {words:List Int} {k:Nat} {x:Int} (hk:k<words.length) (hc:words.getD k 0=x) (h:(words.take k).all (fun x=>inB x 0 2)=true) (h1:inB x 0 2=true):(words.take (k+1)).all (fun x=>inB x 0 2)=true:=by
  have e:words.take (k+1)=words.take k ++ [x]:=by
    rw [List.take_succ_eq_append_getElem hk,← hc];simp [List.getD,List.getElem?_eq_getElem hk]
  rw [e,List.all_append,h];simp [h1]
def fitsAt (words:List Int) (cells:List C3) (k:Nat):Prop:=(cells.take k).all (cellFits words.length)=true
theorem chan_all {cap sent got fin:Int} {cells:List C3} {words:List Int} (h:chanHead ⟨cap,sent,got,fin,cells,words⟩=true) (h1:fitsAt words cells cells.length) (h2:(words.take words.length).all (fun x=>inB x 0 2)=true):true=chanOk ⟨cap,sent,got,fin,cells,words⟩:=by
  unfold fitsAt at h1
  rw [List.take_length] at h1 h2
  unfold chanOk
  rw [h,h1,h2];rfl
theorem fits_snoc {words:List Int} {cells:List C3} {k:Nat} {c:C3} (hk:k<cells.length) (hc:cells.getD k ⟨0,0,0⟩=c) (h:fitsAt words cells k) (h1:cellFits words.length c=true):fitsAt words cells (k+1):=by
  unfold fitsAt at *
  rw [take_snocC cells k hk,hc,List.all_append,h];simp [h1]
set_option maxRecDepth 100000 in
set_option linter.unusedSimpArgs false in
set_option maxHeartbeats 2000000 in
theorem sChanOk_yes (cap sent got fin:Int) (cells:List C3) (words:List Int) (a b:Option Addr) (p q:Nat) (w:World) (h1:Seg w w.heap.size a cells.length 3 (cellF cells)) (h2:Seg w w.heap.size b words.length 1 (intF words)) (h:chanHead ⟨cap,sent,got,fin,cells,words⟩=true) :
    Calls Tryz.prog 58 #[.agg #[.int .i64 cap,.int .i64 sent,.int .i64 got,.int .i64 fin,.slice a cells.length p,.slice b words.length q]] w fun r w'=>r=.returned (.bool (chanOk ⟨cap,sent,got,fin,cells,words⟩))∧Below w.heap.size w w':=by
  obtain ⟨i1,i2,i3,i4,i5,i6⟩:=head_yes h
  have hl:((cells.length:Int) != 40)=false:=by simp;omega
  have hl0:cells.length≤40:=by omega
  have hw:decide (80<(words.length:Int))=false:=by simp;omega
  have H1:=Lib.hid h1
  have H2:=Lib.hid h2
  have HH:=Lib.hid h
  have I5:=Lib.hid i5
  clear h1 h2 h i5
  obtain ⟨b1,o1,rfl,hb1,hc1⟩:∃ b o,a=some ⟨b,o,none⟩∧b<w.heap.size∧Hid (∀ i j,i<cells.length→j<3→w.cell? ⟨b,o+i*3+j,none⟩=some (cellF cells i j)):=by
    rcases H1.out with h0|h0
    · exact absurd h0 (by have:=I5.out;omega)
    · exact h0
  go_enter Tryz.func58,Tryz.ntmps58
  go_wp2_with (first|(go_at_call 60;refine (l1In_any _ _ _ _).mono ?_;rintro _ _ ⟨rfl,rfl⟩)|(go_at_call 97;refine (l2Count_any _ _).mono ?_;rintro _ _ ⟨rfl,rfl⟩))
  go_loopw [3] (fun i wr=>∃ k:Nat,k≤cells.length∧i=.int .i64 k∧fitsAt words cells k∧(∀ o,wr.cell? ⟨w.heap.size,o,none⟩=#[Value.int .i64 cap,.int .i64 sent,.int .i64 got,.int .i64 fin,.slice (some ⟨b1,o1,none⟩) cells.length p,.slice b words.length q][o]?)∧w.heap.size<wr.heap.size∧Below w.heap.size w wr) (fun i _=>cells.length - (intOf i).toNat)
  case atStart=>exact ⟨0,Nat.zero_le _,rfl,rfl,fun o=>by simp,by simp,by exact zB⟩
  case round =>
    obtain ⟨k,hk,rfl,hfit,hbx,hlt1,hB⟩:=hrel
    by_cases hlt:k<cells.length
    · have c0:=(hB.cell (p:=⟨b1,o1+k*3+0,none⟩) hb1).trans (hc1.out k 0 hlt (by omega))
      have c1:=(hB.cell (p:=⟨b1,o1+k*3+1,none⟩) hb1).trans (hc1.out k 1 hlt (by omega))
      have c2:=(hB.cell (p:=⟨b1,o1+k*3+2,none⟩) hb1).trans (hc1.out k 2 hlt (by omega))
      simp only [cellF,C3.val,Nat.add_zero] at c0 c1 c2
      generalize hcg:cells.getD k ⟨0,0,0⟩=c at c0 c1 c2
      have HC:=Lib.hid hcg
      clear hcg
      have x4:=hbx 4
      have x5:=hbx 5
      simp at x4 x5
      have hk0:(0:Int)≤(k:Int):=by omega
      have hk1:(k:Int)<(cells.length:Int):=by omega
      by_cases hok:cellB c.s c.e c.t=true
      · go_wp2_with fail
        go_region_held3 (fun w'=>w'.cell? ⟨w.heap.size,4,none⟩=some (.slice (some ⟨b1,o1,none⟩) cells.length p)∧w'.cell? ⟨w.heap.size,5,none⟩=some (.slice b words.length q)∧w'.cell? ⟨b1,o1+k*3,none⟩=some (.int .i64 c.s)∧w'.cell? ⟨b1,o1+k*3+1,none⟩=some (.int .i64 c.e)∧w'.cell? ⟨b1,o1+k*3+2,none⟩=some (.int .i64 c.t))
          (first|(simp [*,go_sem]))
          (first|(go_at_call 62;refine (sCellOk_any _ _ _ _).mono ?_;rintro _ w7 ⟨rfl,hb7⟩;have hB7:Below w.heap.size w w7:=bT (by exact zB) hb7;have:=hb7.cell (p:=⟨w.heap.size,4,none⟩) (by simp;omega);have:=hb7.cell (p:=⟨w.heap.size,5,none⟩) (by simp;omega);have:=hb7.cell (p:=⟨b1,o1+k*3,none⟩) (by simp;omega);have:=hb7.cell (p:=⟨b1,o1+k*3+1,none⟩) (by simp;omega);have:=hb7.cell (p:=⟨b1,o1+k*3+2,none⟩) (by simp;omega);have hx7:=fun o=>(hb7.cell (p:=⟨w.heap.size,o,none⟩) (by simp;omega)).trans (hbx o);have hs7:=hb7.size;simp at hs7))
        by_cases hct:(words.length:Int)<c.t
        · go_wp2
          go_ret
          exact ⟨ret_bool (chan_bad1 hlt HC.out (by simp [cellFits,okC,hok];omega)),hB7⟩
        · go_wp2
          go_roundw
          case rel=>exact ⟨k+1,by omega,by go_num,fits_snoc hlt HC.out hfit (by simp [cellFits,okC,hok];omega),hx7,by omega,hB7⟩
          case measure=>simp [intOf];omega
      · have hok2:cellB c.s c.e c.t=false:=by simpa using hok
        clear hok x5
        go_wp2_with fail
        refine wp_region_held_drew (S:=fun w'=>w'.cell? ⟨w.heap.size,4,none⟩=some (.slice (some ⟨b1,o1,none⟩) cells.length p)∧w'.cell? ⟨b1,o1+k*3,none⟩=some (.int .i64 c.s)∧w'.cell? ⟨b1,o1+k*3+1,none⟩=some (.int .i64 c.e)∧w'.cell? ⟨b1,o1+k*3+2,none⟩=some (.int .i64 c.t)) (by kernel_rfl) (by simp [*,go_sem]) (fun hS0=>?_)
        refine wpAnyH_take (i:=0) (oi:=⟨some 46,_,_,_,_,_⟩) (v:=?_) rfl (by kernel_rfl) (by kernel_rfl) (by kernel_rfl) (fun _ _ _ h=>h) (Or.inl ⟨by rfl,?_⟩) (by assumption) ?_;rotate_left;(focus (intro w' hSw;(try dsimp only at hSw);go_simp;(try with_reducible rfl)));(try rotate_left);(try simp only [Act.put,List.setIfInBounds_toArray,List.set_cons_zero,List.set_cons_succ])
        refine wpAnyH_take (i:=1) (oi:=⟨some 47,_,_,_,_,_⟩) (v:=?_) rfl (by kernel_rfl) (by kernel_rfl) (by kernel_rfl) (fun _ _ _ h=>h) (Or.inl ⟨by rfl,?_⟩) (by assumption) ?_;rotate_left;(focus (intro w' hSw;(try dsimp only at hSw);go_simp;(try with_reducible rfl)));(try rotate_left);(try simp only [Act.put,List.setIfInBounds_toArray,List.set_cons_zero,List.set_cons_succ])
        refine wpAnyH_take (i:=2) (oi:=⟨some 48,_,_,_,_,_⟩) (v:=?_) rfl (by kernel_rfl) (by kernel_rfl) (by kernel_rfl) (fun _ _ _ h=>h) (Or.inl ⟨by rfl,?_⟩) (by assumption) ?_;rotate_left;(focus (intro w' hSw;(try dsimp only at hSw);go_simp;(try with_reducible rfl)));(try rotate_left);(try simp only [Act.put,List.setIfInBounds_toArray,List.set_cons_zero,List.set_cons_succ])
        refine wpAnyH_take (i:=3) (oi:=⟨some 49,_,_,_,_,_⟩) (v:=?_) rfl (by kernel_rfl) (by kernel_rfl) (by kernel_rfl) (fun _ _ _ h=>h) (Or.inl ⟨by rfl,?_⟩) (by assumption) ?_;rotate_left;(focus (intro w' hSw;(try dsimp only at hSw);go_simp;(try with_reducible rfl)));(try rotate_left);(try simp only [Act.put,List.setIfInBounds_toArray,List.set_cons_zero,List.set_cons_succ])
        refine wpAnyH_take (i:=4) (oi:=⟨some 50,_,_,_,_,_⟩) (v:=?_) rfl (by kernel_rfl) (by kernel_rfl) (by kernel_rfl) (fun _ _ _ h=>h) (Or.inl ⟨by rfl,?_⟩) (by assumption) ?_;rotate_left;(focus (intro w' hSw;(try dsimp only at hSw);go_simp;(try with_reducible rfl)));(try rotate_left);(try simp only [Act.put,List.setIfInBounds_toArray,List.set_cons_zero,List.set_cons_succ])
        refine wpAnyH_ready (rs:=[5]) (by kernel_rfl) (by simp) ?_
        refine AllReadyH.cons (o:=⟨some 51,_,_,_,_,_⟩) rfl (fun K hK=>?_) AllReadyH.nil
        go_simp
        go_at_call 62
        refine (sCellOk_any _ _ _ _).mono ?_
        rintro _ w7 ⟨rfl,hb7⟩
        have hB7:Below w.heap.size w w7:=bT (by exact zB) hb7
        rw [hok2]
        refine hK.out _ _ ?_ (fun hS7=>?_)
        · refine ⟨(hb7.cell (by simp;omega)).trans x4,(hb7.cell (by simp;omega)).trans c0,(hb7.cell (by simp;omega)).trans c1,(hb7.cell (by simp;omega)).trans c2⟩
        clear hK
        (try simp only [Act.put,List.setIfInBounds_toArray,List.set_cons_zero,List.set_cons_succ])
        refine wpAnyH_take (i:=6) (oi:=⟨some 52,_,_,_,_,_⟩) (v:=?_) rfl (by kernel_rfl) (by kernel_rfl) (by kernel_rfl) (fun _ _ _ h=>h) (Or.inl ⟨by rfl,?_⟩) (by assumption) ?_;rotate_left;(focus (intro w' hSw;(try dsimp only at hSw);go_simp;(try with_reducible rfl)));(try rotate_left);(try simp only [Act.put,List.setIfInBounds_toArray,List.set_cons_zero,List.set_cons_succ])
        refine wpAnyH_take (i:=7) (oi:=⟨some 53,_,_,_,_,_⟩) (v:=?_) rfl (by kernel_rfl) (by kernel_rfl) (by kernel_rfl) (fun _ _ _ h=>h) (Or.inl ⟨by rfl,?_⟩) (by assumption) ?_;rotate_left;(focus (intro w' hSw;(try dsimp only at hSw);go_simp;(try with_reducible rfl)));(try rotate_left);(try simp only [Act.put,List.setIfInBounds_toArray,List.set_cons_zero,List.set_cons_succ])
        refine wpAnyH_take (i:=8) (oi:=⟨some 54,_,_,_,_,_⟩) (v:=undef) rfl (by kernel_rfl) (by kernel_rfl) (by kernel_rfl) (fun _ _ _ h=>h) (Or.inr ⟨by rfl,rfl⟩) (by assumption) ?_;(try simp only [Act.put,List.setIfInBounds_toArray,List.set_cons_zero,List.set_cons_succ])
        refine wpAnyH_take (i:=9) (oi:=⟨some 55,_,_,_,_,_⟩) (v:=undef) rfl (by kernel_rfl) (by kernel_rfl) (by kernel_rfl) (fun _ _ _ h=>h) (Or.inr ⟨by rfl,rfl⟩) (by assumption) ?_;(try simp only [Act.put,List.setIfInBounds_toArray,List.set_cons_zero,List.set_cons_succ])
        refine wpAnyH_take (i:=10) (oi:=⟨some 56,_,_,_,_,_⟩) (v:=undef) rfl (by kernel_rfl) (by kernel_rfl) (by kernel_rfl) (fun _ _ _ h=>h) (Or.inr ⟨by rfl,rfl⟩) (by assumption) ?_;(try simp only [Act.put,List.setIfInBounds_toArray,List.set_cons_zero,List.set_cons_succ])
        refine wpAnyH_take (i:=11) (oi:=⟨some 57,_,_,_,_,_⟩) (v:=undef) rfl (by kernel_rfl) (by kernel_rfl) (by kernel_rfl) (fun _ _ _ h=>h) (Or.inr ⟨by rfl,rfl⟩) (by assumption) ?_;(try simp only [Act.put,List.setIfInBounds_toArray,List.set_cons_zero,List.set_cons_succ])
        refine wpAnyH_take (i:=12) (oi:=⟨some 58,_,_,_,_,_⟩) (v:=undef) rfl (by kernel_rfl) (by kernel_rfl) (by kernel_rfl) (fun _ _ _ h=>h) (Or.inr ⟨by rfl,rfl⟩) (by assumption) ?_;(try simp only [Act.put,List.setIfInBounds_toArray,List.set_cons_zero,List.set_cons_succ])
        refine wpAnyH_take (i:=13) (oi:=⟨some 59,_,_,_,_,_⟩) (v:=undef) rfl (by kernel_rfl) (by kernel_rfl) (by kernel_rfl) (fun _ _ _ h=>h) (Or.inr ⟨by rfl,rfl⟩) (by assumption) ?_;(try simp only [Act.put,List.setIfInBounds_toArray,List.set_cons_zero,List.set_cons_succ])
        refine wpAnyH_take (i:=14) (oi:=⟨some 60,_,_,_,_,_⟩) (v:=undef) rfl (by kernel_rfl) (by kernel_rfl) (by kernel_rfl) (fun _ _ _ h=>h) (Or.inr ⟨by rfl,rfl⟩) (by assumption) ?_;(try simp only [Act.put,List.setIfInBounds_toArray,List.set_cons_zero,List.set_cons_succ])
        refine wpAnyH_take (i:=15) (oi:=⟨some 61,_,_,_,_,_⟩) (v:=undef) rfl (by kernel_rfl) (by kernel_rfl) (by kernel_rfl) (fun _ _ _ h=>h) (Or.inr ⟨by rfl,rfl⟩) (by assumption) ?_;(try simp only [Act.put,List.setIfInBounds_toArray,List.set_cons_zero,List.set_cons_succ])
        refine wpAnyH_take (i:=16) (oi:=⟨some 62,_,_,_,_,_⟩) (v:=undef) rfl (by kernel_rfl) (by kernel_rfl) (by kernel_rfl) (fun _ _ _ h=>h) (Or.inr ⟨by rfl,rfl⟩) (by assumption) ?_;(try simp only [Act.put,List.setIfInBounds_toArray,List.set_cons_zero,List.set_cons_succ])
        refine wpAnyH_take (i:=17) (oi:=⟨some 63,_,_,_,_,_⟩) (v:=undef) rfl (by kernel_rfl) (by kernel_rfl) (by kernel_rfl) (fun _ _ _ h=>h) (Or.inr ⟨by rfl,rfl⟩) (by assumption) ?_;(try simp only [Act.put,List.setIfInBounds_toArray,List.set_cons_zero,List.set_cons_succ])
        refine wpAnyH_take (i:=18) (oi:=⟨some 64,_,_,_,_,_⟩) (v:=?_) rfl (by kernel_rfl) (by kernel_rfl) (by kernel_rfl) (fun _ _ _ h=>h) (Or.inl ⟨by rfl,?_⟩) (by assumption) ?_;rotate_left;(focus (intro w' hSw;(try dsimp only at hSw);go_simp;(try with_reducible rfl)));(try rotate_left);(try simp only [Act.put,List.setIfInBounds_toArray,List.set_cons_zero,List.set_cons_succ])
        refine wpAnyH_done (by kernel_rfl) ?_ _
        go_wp2
        go_ret
        exact ⟨ret_bool (chan_bad1 hlt HC.out (by simp [cellFits,okC,hok2])),hB7⟩
    · have:k=cells.length:=by omega
      subst this
      go_wp2
      go_loopw [4] (fun i wr=>∃ k:Nat,k≤words.length∧i=.int .i64 k∧Hid ((words.take k).all (fun x=>inB x 0 2)=true)∧(∀ o,wr.cell? ⟨w.heap.size,o,none⟩=#[Value.int .i64 cap,.int .i64 sent,.int .i64 got,.int .i64 fin,.slice (some ⟨b1,o1,none⟩) cells.length p,.slice b words.length q][o]?)∧w.heap.size<wr.heap.size∧Below w.heap.size w wr) (fun i _=>words.length - (intOf i).toNat)
      case atStart=>exact ⟨0,Nat.zero_le _,rfl,rfl,hbx,hlt1,hB⟩
      case round =>
        clear hbx hlt1 hB hk
        obtain ⟨k,hk,rfl,hall,hbx,hlt1,hB⟩:=hrel
        have x5:=hbx 5
        simp at x5
        by_cases hlt:k<words.length
        · obtain h0|⟨b2,o2,rfl,hb2,hc2⟩:=H2.out
          · omega
          have c0:=(hB.cell (p:=⟨b2,o2+k*1+0,none⟩) hb2).trans (hc2 k 0 hlt (by omega))
          simp only [intF,Nat.add_zero,Nat.mul_one] at c0
          clear hc2
          generalize hcg:words.getD k 0=x at c0
          have HC:=Lib.hid hcg
          clear hcg
          go_wp2_with (go_at_call 60;refine (l1In_any _ _ _ _).mono ?_;rintro _ _ ⟨rfl,rfl⟩)
          · go_ret
            exact ⟨ret_bool (chan_bad2 hlt HC.out (not_true ‹_›)),hB⟩
          · go_roundw
            case rel=>exact ⟨k+1,by omega,by go_num,words_snoc hlt HC.out hall.out (not_false ‹_›),hbx,hlt1,hB⟩
            case measure=>simp [intOf];omega
        · have:k=words.length:=by omega
          subst this
          go_wp2
          go_ret
          exact ⟨ret_bool (chan_all HH.out hfit hall.out),hB⟩
theorem sChanOk_any (c:Ch) (a b:Option Addr) (p q:Nat) (w:World) (h1:Seg w w.heap.size a c.cells.length 3 (cellF c.cells)) (h2:Seg w w.heap.size b c.words.length 1 (intF c.words)) :
    Calls Tryz.prog 58 #[.agg #[.int .i64 c.cap,.int .i64 c.sent,.int .i64 c.got,.int .i64 c.fin,.slice a c.cells.length p,.slice b c.words.length q]] w fun r w'=>r=.returned (.bool (chanOk c))∧Below w.heap.size w w':=by
  obtain ⟨cap,sent,got,fin,cells,words⟩:=c
  by_cases h:chanHead ⟨cap,sent,got,fin,cells,words⟩=true
  · exact sChanOk_yes cap sent got fin cells words a b p q w h1 h2 h
  · exact sChanOk_no cap sent got fin cells words a b p q w (by simpa using h)
end Go.Proofs.YtkiingmgpobgnaaGreat
set_option linter.unusedSimpArgs false
set_option linter.unusedVariables false
namespace Go.Proofs.YtkiingmgpobgnaaGreat
open Go.RowKit
attribute [local go_sem ↓] zeroHand toLHand toVHand storeHand storeHandC
set_option maxRecDepth 100000 in
set_option maxHeartbeats 1000000 in
theorem sHandOk_any (h:Ha) (w:World):Calls Tryz.prog 59 #[.agg (hvals h)] w fun r w'=>r=.returned (.bool (handOk h))∧Below w.heap.size w w':=by
  go_enter Tryz.func59,Tryz.ntmps59
  go_wp2_with (first|(go_at_call 60;refine (l1In_any _ _ _ _).mono ?_;rintro _ _ ⟨rfl,rfl⟩)|(go_at_call 100;refine (l1State_any _ _).mono ?_;rintro _ _ ⟨rfl,rfl⟩)|(go_at_call 63;refine (l1Elem_any _ _).mono ?_;rintro _ _ ⟨rfl,rfl⟩)|(go_at_call 97;refine (l2Count_any _ _).mono ?_;rintro _ _ ⟨rfl,rfl⟩)|(go_at_call 99;refine bHit w (by exact zB) fun bb=>?_;refine (sCallOk_any _ _ _).mono ?_;rintro _ w1 ⟨rfl,hbw1⟩;have hCw1:Below w.heap.size w w1:=bT bb hbw1;have hsw1:=hbw1.size;(try simp at hsw1);have zz:=hQ hbw1 (b:=w.heap.size);(try simp [go_sem] at zz);(try clear z_w x_w f_w l_w);have z_w:=zz;clear zz;obtain ⟨x_w,f_w,l_w⟩:=bO z_w;clear hbw1 bb)|(go_at_call 98;refine bHit w (by exact zB) fun bb=>?_;refine (l4None_any _ _ _).mono ?_;rintro _ w1 ⟨rfl,hbw1⟩;have hCw1:Below w.heap.size w w1:=bT bb hbw1;have hsw1:=hbw1.size;(try simp at hsw1);have zz:=hQ hbw1 (b:=w.heap.size);(first|simp [go_sem,z_w,l_w] at zz|simp [go_sem] at zz|skip);(try clear z_w x_w f_w l_w);have z_w:=zz;clear zz;obtain ⟨x_w,f_w,l_w⟩:=bO z_w;clear hbw1 bb))
  all_goals go_ret
  all_goals exact ⟨ret_bool (by simp_all [handOk,handA,handB,handC]),by exact zB⟩
set_option maxRecDepth 100000 in
theorem sResting_any (x o:Int) (w:World):Calls Tryz.prog 27 #[.int .i64 x,.int .i64 o] w fun r w'=>r=.returned (.agg (hvals (resting x o)))∧Below w.heap.size w w':=by
  go_enter Tryz.func27,Tryz.ntmps27
  go_wp2
  refine bodyPost_ret (res_c Tryz.results27 rfl (ldHand (resting x o) (by simp [go_sem] <;> rfl))) rfl ⟨rfl,by exact zB⟩
set_option maxRecDepth 100000 in
theorem l5Begin_any (k e b:Int) (w:World):Calls Tryz.prog 101 #[.agg #[.int .i64 k,.int .i64 e],.int .i64 b] w fun r w'=>r=.returned (.agg (hvals (begun k e b)))∧Below w.heap.size w w':=by
  by_cases h:k=2
  · subst h
    go_enter Tryz.func101,Tryz.ntmps101
    go_wp2
    refine bodyPost_ret (res_c Tryz.results101 rfl (ldHand (begun 2 e b) (by simp [go_sem] <;> rfl))) rfl ⟨rfl,by exact zB⟩
  · have e1:begun k e b=⟨1,k,e,0,0,0,0,0,0,0,0,b,0,0⟩:=by simp [begun,h]
    rw [e1]
    have h2:(k == 2)=false:=by simpa using h
    clear h
    go_enter Tryz.func101,Tryz.ntmps101
    go_wp2
    refine bodyPost_ret (res_c Tryz.results101 rfl (ldHand ⟨1,k,e,0,0,0,0,0,0,0,0,b,0,0⟩ (by simp [go_sem] <;> rfl))) rfl ⟨rfl,by exact zB⟩
set_option maxRecDepth 100000 in
theorem l6Anew_any (h:Ha) (w:World):Calls Tryz.prog 64 #[.agg (hvals h)] w fun r w'=>r=.returned (.agg (hvals (begun h.code h.elem h.beg)))∧Below w.heap.size w w':=by
  go_enter Tryz.func64,Tryz.ntmps64
  go_wp2_with fail;refine bHit w (by exact zB) fun bb=>?_;refine (l5Begin_any h.code h.elem h.beg _).mono ?_;rintro _ w1 ⟨rfl,hbw1⟩;have hCw1:Below w.heap.size w w1:=bT bb hbw1;have hsw1:=hbw1.size;(try simp at hsw1);have zz:=And.intro (hQ hbw1 (b:=w.heap.size+1)) <| hQ hbw1 (b:=w.heap.size);(try simp [go_sem] at zz);(try clear z_wp x_wp f_wp l_wp);(try clear z_w x_w f_w l_w);obtain ⟨z_wp,z_w⟩:=zz;obtain ⟨x_wp,f_wp,l_wp⟩:=bO z_wp;obtain ⟨x_w,f_w,l_w⟩:=bO z_w;clear hbw1 bb
  go_wp2
  refine bodyPost_ret (res_c Tryz.results64 rfl (ldHand (begun h.code h.elem h.beg) (by simp [go_sem, *] <;> rfl))) rfl ⟨rfl,by exact zB⟩
end Go.Proofs.YtkiingmgpobgnaaGreat
set_option linter.unusedSimpArgs false
set_option linter.unusedVariables false
namespace Go.Proofs.YtkiingmgpobgnaaGreat
open Go.RowKit
set_option linter.unusedSimpArgs false
theorem l11Now_any (n:Int) (w:World):Calls Tryz.prog 107 #[.int .i64 n] w fun r w'=>r=.returned (.bool (inB n 0 20000))∧w=w':=by
  go_enter Tryz.func107,Tryz.ntmps107
  go_wp2_with (go_at_call 60;refine (l1In_any _ _ _ _).mono ?_;rintro _ _ ⟨rfl,rfl⟩)
  go_ret
  exact ⟨rfl,rfl⟩
theorem l11Task_any (c:Ch) (n:Nat) (now who:Int) (v1 v2 v3:Option Addr) (a1 a2 a3:Nat) (v4:Option Addr) (a4 n4 n1 n2:Nat) (hm:n≤1099511627776) (w:World) :
    Calls Tryz.prog 82 #[.agg #[.int .i64 c.cap,.int .i64 c.sent,.int .i64 c.got,.int .i64 c.fin,.slice v1 n1 a1,.slice v2 n2 a2,.slice v3 n a3,.slice v4 n4 a4,.int .i64 now],.int .i64 who] w fun r w'=>r=.returned (.bool (taskB n who))∧Below w.heap.size w w':=by
  go_enter Tryz.func82,Tryz.ntmps82
  go_wp2_with (go_at_call 60;refine (l1In_any _ _ _ _).mono ?_;rintro _ _ ⟨rfl,rfl⟩)
  go_ret
  exact ⟨ret_bool rfl,by exact zB⟩
theorem hand_bad {x:Wo} {k:Nat} {h:Ha} (hk:k<x.hands.length) (hc:x.hands.getD k Ha.zero=h) (e:handB11 x.now h=false):false=worldOk x:=by
  have:x.hands.all (handB11 x.now)=false:=by
    rw [List.all_eq_false]
    refine ⟨x.hands[k],List.getElem_mem hk,?_⟩
    rw [← hc] at e
    simpa [List.getD,List.getElem?_eq_getElem hk] using e
  simp [worldOk,this]
theorem deal_bad {x:Wo} {k:Nat} {d:De} (hk:k<x.deals.length) (hc:x.deals.getD k De.zero=d) (e:dealB x.hands.length x.now d=false):false=worldOk x:=by
  have:x.deals.all (dealB x.hands.length x.now)=false:=by
    rw [List.all_eq_false]
    refine ⟨x.deals[k],List.getElem_mem hk,?_⟩
    rw [← hc] at e
    simpa [List.getD,List.getElem?_eq_getElem hk] using e
  simp [worldOk,this]
theorem take_snocH {α:Type} (l:List α) (k:Nat) (z:α) (hk:k<l.length):l.take (k+1)=l.take k ++ [l.getD k z]:=by
  rw [List.take_succ_eq_append_getElem hk];simp [List.getD,List.getElem?_eq_getElem hk]
theorem hands_snoc {x:Wo} {k:Nat} {h:Ha} (hk:k<x.hands.length) (hc:x.hands.getD k Ha.zero=h) (e:(x.hands.take k).all (handB11 x.now)=true) (e1:handB11 x.now h=true):(x.hands.take (k+1)).all (handB11 x.now)=true:=by
  rw [take_snocH _ k Ha.zero hk,hc,List.all_append,e];simp [e1]
theorem deals_snoc {x:Wo} {k:Nat} {d:De} (hk:k<x.deals.length) (hc:x.deals.getD k De.zero=d) (e:(x.deals.take k).all (dealB x.hands.length x.now)=true) (e1:dealB x.hands.length x.now d=true):(x.deals.take (k+1)).all (dealB x.hands.length x.now)=true:=by
  rw [take_snocH _ k De.zero hk,hc,List.all_append,e];simp [e1]
theorem world_all {x:Wo} (h:worldHead x=true) (h1:(x.hands.take x.hands.length).all (handB11 x.now)=true) (h2:(x.deals.take x.deals.length).all (dealB x.hands.length x.now)=true):true=worldOk x:=by
  rw [List.take_length] at h1 h2
  simp only [worldOk,h,h1,h2];rfl
theorem whead_yes {x:Wo} (h:worldHead x=true):chanOk x.ch=true∧1≤x.hands.length∧x.hands.length≤6∧x.deals.length≤1000∧inB x.now 0 20000=true:=by
  simpa [worldHead] using h
set_option maxRecDepth 100000 in
set_option maxHeartbeats 2000000 in
theorem sWorldOk_no (x:Wo) (a b d e:Option Addr) (p q r s:Nat) (w:World) (h1:Seg w w.heap.size a x.ch.cells.length 3 (cellF x.ch.cells)) (h2:Seg w w.heap.size b x.ch.words.length 1 (intF x.ch.words)) (m3:x.hands.length≤1099511627776) (m4:x.deals.length≤1099511627776) (h:worldHead x=false) :
    Calls Tryz.prog 81 #[.agg #[.int .i64 x.ch.cap,.int .i64 x.ch.sent,.int .i64 x.ch.got,.int .i64 x.ch.fin,.slice a x.ch.cells.length p,.slice b x.ch.words.length q,.slice d x.hands.length r,.slice e x.deals.length s,.int .i64 x.now]] w fun r w'=>r=.returned (.bool (worldOk x))∧Below w.heap.size w w':=by
  have e0:worldOk x=false:=by simp [worldOk,h]
  rw [e0]
  have H1:=Lib.hid h1
  have H2:=Lib.hid h2
  have H:=Lib.hid h
  clear h1 h2 h e0
  go_enter Tryz.func81,Tryz.ntmps81
  go_wp2_with (first|(go_at_call 58;refine bHit w (by exact zB) fun bb=>?_;refine (sChanOk_any x.ch a b p q _ ((H1.out.below bb).more bb.size) ((H2.out.below bb).more bb.size)).mono ?_;rintro _ w1 ⟨rfl,hbw1⟩;have hCw1:Below w.heap.size w w1:=bT bb hbw1;have hsw1:=hbw1.size;(try simp at hsw1);have zz:=And.intro (fun o=>hbw1.cell (p:=⟨w.heap.size,o,none⟩) (by (try simp) <;> omega)) <| fun o=>hbw1.frozen (p:=⟨w.heap.size,o,none⟩) (by (try simp) <;> omega);(try simp [go_sem] at zz);(try clear x_w f_w);obtain ⟨x_w,f_w⟩:=zz;(try clear l_w);have l_w:w.heap.size<w1.heap.size:=(by omega);clear hbw1 bb)|(go_at_call 107;refine (l11Now_any _ _).mono ?_;rintro _ _ ⟨rfl,rfl⟩))
  all_goals first|(go_ret;exact ⟨rfl,by exact zB⟩)|skip
  exfalso
  have h:=H.out
  simp [worldHead, *] at h
  have h2:=h (by omega) (by omega) (by omega)
  simp_all
attribute [local go_sem ↓] zeroHand toLHand toVHand storeHand storeHandC
set_option maxRecDepth 100000 in
set_option maxHeartbeats 4000000 in
theorem sWorldOk_yes (c:Ch) (hs:List Ha) (ds:List De) (now:Int) (a b d e:Option Addr) (p q r s:Nat) (w:World) (h1:Seg w w.heap.size a c.cells.length 3 (cellF c.cells)) (h2:Seg w w.heap.size b c.words.length 1 (intF c.words)) (h3:Seg w w.heap.size d hs.length 14 (handF hs)) (h4:Seg w w.heap.size e ds.length 7 (dealF ds)) (h:worldHead ⟨c,hs,ds,now⟩=true) :
    Calls Tryz.prog 81 #[.agg #[.int .i64 c.cap,.int .i64 c.sent,.int .i64 c.got,.int .i64 c.fin,.slice a c.cells.length p,.slice b c.words.length q,.slice d hs.length r,.slice e ds.length s,.int .i64 now]] w fun r w'=>r=.returned (.bool (worldOk ⟨c,hs,ds,now⟩))∧Below w.heap.size w w':=by
  obtain ⟨i1,i2,i3,i4,i5⟩:=whead_yes h
  simp only at i1 i2 i3 i4 i5
  have g1:decide ((hs.length:Int)<1)=false:=by simp;omega
  have g2:decide (6<(hs.length:Int))=false:=by simp;omega
  have g3:decide (1000<(ds.length:Int))=false:=by simp;omega
  have H1:=Lib.hid h1
  have H2:=Lib.hid h2
  have H4:=Lib.hid h4
  have HH:=Lib.hid h
  have I2:=Lib.hid i2
  obtain ⟨b3,o3,rfl,hb3,hc3⟩:∃ b o,d=some ⟨b,o,none⟩∧b<w.heap.size∧Hid (∀ i j,i<hs.length→j<14→w.cell? ⟨b,o+i*14+j,none⟩=some (handF hs i j)):=by
    rcases h3 with h0|h0
    · exact absurd h0 (by omega)
    · exact h0
  clear h1 h2 h3 h4 h i2
  go_enter Tryz.func81,Tryz.ntmps81
  go_wp2_with (first|((go_at_call 58;refine bHit w (by exact zB) fun bb=>?_;refine (sChanOk_any c a b p q _ ((H1.out.below bb).more bb.size) ((H2.out.below bb).more bb.size)).mono ?_;rintro _ w1 ⟨rfl,hbw1⟩;have hCw1:Below w.heap.size w w1:=bT bb hbw1;have hsw1:=hbw1.size;(try simp at hsw1);have zz:=And.intro (fun o=>hbw1.cell (p:=⟨w.heap.size,o,none⟩) (by (try simp) <;> omega)) <| fun o=>hbw1.frozen (p:=⟨w.heap.size,o,none⟩) (by (try simp) <;> omega);(try simp [go_sem] at zz);(try clear x_w f_w);obtain ⟨x_w,f_w⟩:=zz;(try clear l_w);have l_w:w.heap.size<w1.heap.size:=(by omega);clear hbw1 bb);rw [i1])|((go_at_call 107;refine (l11Now_any _ _).mono ?_;rintro _ _ ⟨rfl,rfl⟩);rw [i5]))
  go_loopw [3] (fun i wr=>∃ k:Nat,k≤hs.length∧i=.int .i64 k∧Hid ((hs.take k).all (handB11 now)=true)∧(∀ o,wr.cell? ⟨w.heap.size,o,none⟩=#[Value.int .i64 c.cap,.int .i64 c.sent,.int .i64 c.got,.int .i64 c.fin,.slice a c.cells.length p,.slice b c.words.length q,.slice (some ⟨b3,o3,none⟩) hs.length r,.slice e ds.length s,.int .i64 now][o]?)∧w.heap.size<wr.heap.size∧Below w.heap.size w wr) (fun i _=>hs.length - (intOf i).toNat)
  case atStart=>exact ⟨0,Nat.zero_le _,rfl,rfl,fun o=>by simp [x_w],by omega,by exact zB⟩
  case round =>
    clear x_w f_w l_w hCw1 hsw1
    obtain ⟨k,hk,rfl,hall,hbx,hlt1,hB⟩:=hrel
    by_cases hlt:k<hs.length
    · have cc:=fun j hj=>hc3.out k j hlt hj
      have hBk:=(hB.cell (p:=⟨b3,o3+k*14+11,none⟩) hb3).trans (cc 11 (by omega))
      simp only [handF] at cc hBk
      generalize hcg:hs.getD k Ha.zero=hx at cc hBk
      have HC:=Lib.hid hcg
      clear hcg
      have hLd:∀ W:World,hp W b3=hp w b3→(LHand (.pointer (some ⟨b3,o3+k*14,none⟩))).run Tryz.prog W=.ok (.agg (hvals hx)) W:=fun W e=>ldHandE hx fun j hj=>by rw [← cc j hj];exact World.cell?_of_block e
      clear cc
      have c11:wr.cell? ⟨b3,o3+k*14+11,none⟩=some (.int .i64 hx.beg):=hBk
      clear hBk
      have z3:hp wr b3=hp w b3:=hB.block b3 hb3
      have x6:=hbx 6
      have x8:=hbx 8
      simp at x6 x8
      have hk0:(0:Int)≤(k:Int):=by omega
      have hk1:(k:Int)<(hs.length:Int):=by omega
      by_cases hok:handOk hx=true
      · go_wp2_with fail
        go_region_held3 (fun w'=>w'.cell? ⟨w.heap.size,6,none⟩=some (.slice (some ⟨b3,o3,none⟩) hs.length r)∧w'.cell? ⟨w.heap.size,8,none⟩=some (.int .i64 now)∧hp w' b3=hp w b3∧w'.cell? ⟨b3,o3+k*14+11,none⟩=some (.int .i64 hx.beg))
          (first|(simp [*,go_sem]))
          (first|(go_at_call 59;refine (sHandOk_any hx _).mono ?_;rintro _ w7 ⟨rfl,hb7⟩;have hB7:Below w.heap.size w w7:=bT (by exact zB) hb7;have:=hb7.cell (p:=⟨w.heap.size,6,none⟩) (by simp;omega);have:=hb7.cell (p:=⟨w.heap.size,8,none⟩) (by simp;omega);have:=hb7.cell (p:=⟨b3,o3+k*14+11,none⟩) (by simp;omega);have z7:hp w7 b3=hp w b3:=hB7.block b3 hb3;have hx7:=fun o=>(hb7.cell (p:=⟨w.heap.size,o,none⟩) (by simp;omega)).trans (hbx o);have hs7:=hb7.size;simp at hs7;rw [hok]))
        by_cases hct:now<hx.beg
        · go_wp2
          go_ret
          exact ⟨ret_bool (hand_bad (x:=⟨c,hs,ds,now⟩) hlt HC.out (by simp [handB11,hok];omega)),hB7⟩
        · go_wp2
          go_roundw
          case rel=>exact ⟨k+1,by omega,by go_num,hands_snoc (x:=⟨c,hs,ds,now⟩) hlt HC.out hall.out (by simp [handB11,hok];omega),hx7,by omega,hB7⟩
          case measure=>simp [intOf];omega
      · have hok2:handOk hx=false:=by simpa using hok
        clear hok
        go_wp2_with fail
        refine wp_region_held_drew (S:=fun w'=>w'.cell? ⟨w.heap.size,6,none⟩=some (.slice (some ⟨b3,o3,none⟩) hs.length r)∧w'.cell? ⟨w.heap.size,8,none⟩=some (.int .i64 now)∧hp w' b3=hp w b3∧w'.cell? ⟨b3,o3+k*14+11,none⟩=some (.int .i64 hx.beg)) (by kernel_rfl) (by simp [*,go_sem]) (fun hS0=>?_)
        refine wpAnyH_take (i:=0) (oi:=⟨some 41,_,_,_,_,_⟩) (v:=?_) rfl (by kernel_rfl) (by kernel_rfl) (by kernel_rfl) (fun _ _ _ h=>h) (Or.inl ⟨by rfl,?_⟩) (by assumption) ?_;rotate_left;(focus (intro w' hSw;(try dsimp only at hSw);go_simp;(try with_reducible rfl)));(try rotate_left);(try simp only [Act.put,List.setIfInBounds_toArray,List.set_cons_zero,List.set_cons_succ])
        refine wpAnyH_take (i:=1) (oi:=⟨some 42,_,_,_,_,_⟩) (v:=?_) rfl (by kernel_rfl) (by kernel_rfl) (by kernel_rfl) (fun _ _ _ h=>h) (Or.inl ⟨by rfl,?_⟩) (by assumption) ?_;rotate_left;(focus (intro w' hSw;(try dsimp only at hSw);go_simp;(try with_reducible rfl)));(try rotate_left);(try simp only [Act.put,List.setIfInBounds_toArray,List.set_cons_zero,List.set_cons_succ])
        refine wpAnyH_take (i:=2) (oi:=⟨some 43,_,_,_,_,_⟩) (v:=?_) rfl (by kernel_rfl) (by kernel_rfl) (by kernel_rfl) (fun _ _ _ h=>h) (Or.inl ⟨by rfl,?_⟩) (by assumption) ?_;rotate_left;(focus (intro w' hSw;(try dsimp only at hSw);go_simp;(try with_reducible rfl)));(try rotate_left);(try simp only [Act.put,List.setIfInBounds_toArray,List.set_cons_zero,List.set_cons_succ])
        refine wpAnyH_take (i:=3) (oi:=⟨some 44,_,_,_,_,_⟩) (v:=?_) rfl (by kernel_rfl) (by kernel_rfl) (by kernel_rfl) (fun _ _ _ h=>h) (Or.inl ⟨by rfl,?_⟩) (by assumption) ?_;rotate_left;(focus (intro w' hSw;(try dsimp only at hSw);go_simp;(try with_reducible rfl)));(try rotate_left);(try simp only [Act.put,List.setIfInBounds_toArray,List.set_cons_zero,List.set_cons_succ])
        refine wpAnyH_take (i:=4) (oi:=⟨some 45,_,_,_,_,_⟩) (v:=?_) rfl (by kernel_rfl) (by kernel_rfl) (by kernel_rfl) (fun _ _ _ h=>h) (Or.inl ⟨by rfl,?_⟩) (by assumption) ?_;rotate_left;(focus (intro w' hSw;(try dsimp only at hSw);go_simp;(try with_reducible rfl)));(try rotate_left);(try simp only [Act.put,List.setIfInBounds_toArray,List.set_cons_zero,List.set_cons_succ])
        refine wpAnyH_ready (rs:=[5]) (by kernel_rfl) (by simp) ?_
        refine AllReadyH.cons (o:=⟨some 46,_,_,_,_,_⟩) rfl (fun K hK=>?_) AllReadyH.nil
        go_simp
        go_at_call 59
        refine (sHandOk_any hx _).mono ?_
        rintro _ w7 ⟨rfl,hb7⟩
        have hB7:Below w.heap.size w w7:=bT (by exact zB) hb7
        rw [hok2]
        refine hK.out _ _ ?_ (fun hS7=>?_)
        · refine ⟨(hb7.cell (by simp;omega)).trans x6,(hb7.cell (by simp;omega)).trans x8,hB7.block b3 hb3,(hb7.cell (by simp;omega)).trans c11⟩
        clear hK
        (try simp only [Act.put,List.setIfInBounds_toArray,List.set_cons_zero,List.set_cons_succ])
        refine wpAnyH_take (i:=6) (oi:=⟨some 47,_,_,_,_,_⟩) (v:=?_) rfl (by kernel_rfl) (by kernel_rfl) (by kernel_rfl) (fun _ _ _ h=>h) (Or.inl ⟨by rfl,?_⟩) (by assumption) ?_;rotate_left;(focus (intro w' hSw;(try dsimp only at hSw);go_simp;(try with_reducible rfl)));(try rotate_left);(try simp only [Act.put,List.setIfInBounds_toArray,List.set_cons_zero,List.set_cons_succ])
        refine wpAnyH_take (i:=7) (oi:=⟨some 48,_,_,_,_,_⟩) (v:=?_) rfl (by kernel_rfl) (by kernel_rfl) (by kernel_rfl) (fun _ _ _ h=>h) (Or.inl ⟨by rfl,?_⟩) (by assumption) ?_;rotate_left;(focus (intro w' hSw;(try dsimp only at hSw);go_simp;(try with_reducible rfl)));(try rotate_left);(try simp only [Act.put,List.setIfInBounds_toArray,List.set_cons_zero,List.set_cons_succ])
        refine wpAnyH_take (i:=8) (oi:=⟨some 49,_,_,_,_,_⟩) (v:=undef) rfl (by kernel_rfl) (by kernel_rfl) (by kernel_rfl) (fun _ _ _ h=>h) (Or.inr ⟨by rfl,rfl⟩) (by assumption) ?_;(try simp only [Act.put,List.setIfInBounds_toArray,List.set_cons_zero,List.set_cons_succ])
        refine wpAnyH_take (i:=9) (oi:=⟨some 50,_,_,_,_,_⟩) (v:=undef) rfl (by kernel_rfl) (by kernel_rfl) (by kernel_rfl) (fun _ _ _ h=>h) (Or.inr ⟨by rfl,rfl⟩) (by assumption) ?_;(try simp only [Act.put,List.setIfInBounds_toArray,List.set_cons_zero,List.set_cons_succ])
        refine wpAnyH_take (i:=10) (oi:=⟨some 51,_,_,_,_,_⟩) (v:=undef) rfl (by kernel_rfl) (by kernel_rfl) (by kernel_rfl) (fun _ _ _ h=>h) (Or.inr ⟨by rfl,rfl⟩) (by assumption) ?_;(try simp only [Act.put,List.setIfInBounds_toArray,List.set_cons_zero,List.set_cons_succ])
        refine wpAnyH_take (i:=11) (oi:=⟨some 52,_,_,_,_,_⟩) (v:=undef) rfl (by kernel_rfl) (by kernel_rfl) (by kernel_rfl) (fun _ _ _ h=>h) (Or.inr ⟨by rfl,rfl⟩) (by assumption) ?_;(try simp only [Act.put,List.setIfInBounds_toArray,List.set_cons_zero,List.set_cons_succ])
        refine wpAnyH_take (i:=12) (oi:=⟨some 53,_,_,_,_,_⟩) (v:=undef) rfl (by kernel_rfl) (by kernel_rfl) (by kernel_rfl) (fun _ _ _ h=>h) (Or.inr ⟨by rfl,rfl⟩) (by assumption) ?_;(try simp only [Act.put,List.setIfInBounds_toArray,List.set_cons_zero,List.set_cons_succ])
        refine wpAnyH_take (i:=13) (oi:=⟨some 54,_,_,_,_,_⟩) (v:=undef) rfl (by kernel_rfl) (by kernel_rfl) (by kernel_rfl) (fun _ _ _ h=>h) (Or.inr ⟨by rfl,rfl⟩) (by assumption) ?_;(try simp only [Act.put,List.setIfInBounds_toArray,List.set_cons_zero,List.set_cons_succ])
        refine wpAnyH_take (i:=14) (oi:=⟨some 55,_,_,_,_,_⟩) (v:=undef) rfl (by kernel_rfl) (by kernel_rfl) (by kernel_rfl) (fun _ _ _ h=>h) (Or.inr ⟨by rfl,rfl⟩) (by assumption) ?_;(try simp only [Act.put,List.setIfInBounds_toArray,List.set_cons_zero,List.set_cons_succ])
        refine wpAnyH_take (i:=15) (oi:=⟨some 56,_,_,_,_,_⟩) (v:=undef) rfl (by kernel_rfl) (by kernel_rfl) (by kernel_rfl) (fun _ _ _ h=>h) (Or.inr ⟨by rfl,rfl⟩) (by assumption) ?_;(try simp only [Act.put,List.setIfInBounds_toArray,List.set_cons_zero,List.set_cons_succ])
        refine wpAnyH_take (i:=16) (oi:=⟨some 57,_,_,_,_,_⟩) (v:=undef) rfl (by kernel_rfl) (by kernel_rfl) (by kernel_rfl) (fun _ _ _ h=>h) (Or.inr ⟨by rfl,rfl⟩) (by assumption) ?_;(try simp only [Act.put,List.setIfInBounds_toArray,List.set_cons_zero,List.set_cons_succ])
        refine wpAnyH_take (i:=17) (oi:=⟨some 58,_,_,_,_,_⟩) (v:=?_) rfl (by kernel_rfl) (by kernel_rfl) (by kernel_rfl) (fun _ _ _ h=>h) (Or.inl ⟨by rfl,?_⟩) (by assumption) ?_;rotate_left;(focus (intro w' hSw;(try dsimp only at hSw);go_simp;(try with_reducible rfl)));(try rotate_left);(try simp only [Act.put,List.setIfInBounds_toArray,List.set_cons_zero,List.set_cons_succ])
        refine wpAnyH_done (by kernel_rfl) ?_ _
        go_wp2
        go_ret
        exact ⟨ret_bool (hand_bad (x:=⟨c,hs,ds,now⟩) hlt HC.out (by simp [handB11,hok2])),hB7⟩
    · have:k=hs.length:=by omega
      subst this
      go_wp2
      go_loopw [4] (fun i wr=>∃ k:Nat,k≤ds.length∧i=.int .i64 k∧Hid ((ds.take k).all (dealB hs.length now)=true)∧(∀ o,wr.cell? ⟨w.heap.size,o,none⟩=#[Value.int .i64 c.cap,.int .i64 c.sent,.int .i64 c.got,.int .i64 c.fin,.slice a c.cells.length p,.slice b c.words.length q,.slice (some ⟨b3,o3,none⟩) hs.length r,.slice e ds.length s,.int .i64 now][o]?)∧w.heap.size<wr.heap.size∧Below w.heap.size w wr) (fun i _=>ds.length - (intOf i).toNat)
      case atStart=>exact ⟨0,Nat.zero_le _,rfl,rfl,hbx,hlt1,hB⟩
      case round =>
        clear hbx hlt1 hB hk
        obtain ⟨k,hk,rfl,hdall,hbx,hlt1,hB⟩:=hrel
        have x7:=hbx 7
        simp at x7
        by_cases hlt:k<ds.length
        · obtain h0|⟨b4,o4,rfl,hb4,hc4⟩:=H4.out
          · omega
          have cc:=fun j hj=>(hB.cell (p:=⟨b4,o4+k*7+j,none⟩) hb4).trans (hc4 k j hlt hj)
          have c0:=cc 0 (by omega)
          have c1:=cc 1 (by omega)
          have c2:=cc 2 (by omega)
          have c3:=cc 3 (by omega)
          have c4:=cc 4 (by omega)
          have c5:=cc 5 (by omega)
          have c6:=cc 6 (by omega)
          clear cc hc4
          simp only [dealF] at c0 c1 c2 c3 c4 c5 c6
          generalize hcg:ds.getD k De.zero=dd at c0 c1 c2 c3 c4 c5 c6
          simp [dvals,Array.getD] at c0 c1 c2 c3 c4 c5 c6
          have HC:=Lib.hid hcg
          clear hcg
          have x_w:=hbx
          have l_w:=hlt1
          have hl3:hs.length≤1099511627776:=by omega
          go_wp2_with (first|((go_at_call 82;refine bHit w (by exact zB) fun bb=>?_;refine (l11Task_any c hs.length now _ _ _ _ _ _ _ _ _ _ _ _ hl3 _).mono ?_;rintro _ w5 ⟨rfl,hbw5⟩;have hCw5:Below w.heap.size w w5:=bT bb hbw5;have hsw5:=hbw5.size;(try simp at hsw5);have zz:=And.intro (fun o=>hbw5.cell (p:=⟨wr.heap.size,o,none⟩) (by (try simp) <;> omega)) <| And.intro (fun o=>hbw5.frozen (p:=⟨wr.heap.size,o,none⟩) (by (try simp) <;> omega)) <| And.intro (fun o=>hbw5.cell (p:=⟨w.heap.size,o,none⟩) (by (try simp) <;> omega)) <| fun o=>hbw5.frozen (p:=⟨w.heap.size,o,none⟩) (by (try simp) <;> omega);(first|simp [go_sem,x_w,f_w,l_w] at zz|simp [go_sem,x_w,l_w] at zz|simp [go_sem] at zz|skip);(try clear x_wr f_wr);(try clear x_w f_w);obtain ⟨x_wr,f_wr,x_w,f_w⟩:=zz;(try clear l_wr);have l_wr:wr.heap.size<w5.heap.size:=(by omega);(try clear l_w);have l_w:w.heap.size<w5.heap.size:=(by omega);clear hbw5 bb))|((go_at_call 86;refine bHit w (by exact zB) fun bb=>?_;refine (sReplyOk_any _ _ _ _).mono ?_;rintro _ w6 ⟨rfl,hbw6⟩;have hCw6:Below w.heap.size w w6:=bT bb hbw6;have hsw6:=hbw6.size;(try simp at hsw6);have zz:=And.intro (fun o=>hbw6.cell (p:=⟨wr.heap.size,o,none⟩) (by (try simp) <;> omega)) <| And.intro (fun o=>hbw6.frozen (p:=⟨wr.heap.size,o,none⟩) (by (try simp) <;> omega)) <| And.intro (fun o=>hbw6.cell (p:=⟨w.heap.size,o,none⟩) (by (try simp) <;> omega)) <| fun o=>hbw6.frozen (p:=⟨w.heap.size,o,none⟩) (by (try simp) <;> omega);(first|simp [go_sem,x_wr,f_wr,x_w,f_w,l_w,l_wr] at zz|simp [go_sem,x_w,f_w,l_w] at zz|simp [go_sem,x_w,l_w] at zz|simp [go_sem] at zz|skip);(try clear x_wr f_wr);(try clear x_w f_w);obtain ⟨x_wr,f_wr,x_w,f_w⟩:=zz;(try clear l_wr);have l_wr:wr.heap.size<w6.heap.size:=(by omega);(try clear l_w);have l_w:w.heap.size<w6.heap.size:=(by omega);clear hbw6 bb))|(go_at_call 60;refine (l1In_any _ _ _ _).mono ?_;rintro _ _ ⟨rfl,rfl⟩)|(go_at_call 63;refine (l1Elem_any _ _).mono ?_;rintro _ _ ⟨rfl,rfl⟩))
          all_goals first
            | (go_ret;exact ⟨ret_bool (deal_bad (x:=⟨c,hs,ds,now⟩) hlt HC.out (by first|(simp [dealB, *];done)|(have h9:=not_true ‹(!inB dd.out 0 999)=true›;simp [dealB, *];done))),by exact zB⟩)
            | (go_roundw
               case rel=>exact ⟨k+1,by omega,by go_num,deals_snoc (x:=⟨c,hs,ds,now⟩) hlt HC.out hdall.out (by have h9:=not_false ‹(!inB dd.out 0 999)=false›;simp [dealB, *]),fun o=>by simp [x_w],by omega,by exact zB⟩
               case measure=>simp [intOf];omega)
        · have:k=ds.length:=by omega
          subst this
          go_wp2
          go_ret
          exact ⟨ret_bool (world_all HH.out hall.out hdall.out),hB⟩
theorem sWorldOk_any (x:Wo) (a b d e:Option Addr) (p q r s:Nat) (w:World) (h1:Seg w w.heap.size a x.ch.cells.length 3 (cellF x.ch.cells)) (h2:Seg w w.heap.size b x.ch.words.length 1 (intF x.ch.words)) (h3:Seg w w.heap.size d x.hands.length 14 (handF x.hands)) (h4:Seg w w.heap.size e x.deals.length 7 (dealF x.deals)) (m3:x.hands.length≤1099511627776) (m4:x.deals.length≤1099511627776) :
    Calls Tryz.prog 81 #[.agg #[.int .i64 x.ch.cap,.int .i64 x.ch.sent,.int .i64 x.ch.got,.int .i64 x.ch.fin,.slice a x.ch.cells.length p,.slice b x.ch.words.length q,.slice d x.hands.length r,.slice e x.deals.length s,.int .i64 x.now]] w fun r w'=>r=.returned (.bool (worldOk x))∧Below w.heap.size w w':=by
  cases h:worldHead x with
  | false=>exact sWorldOk_no x a b d e p q r s w h1 h2 m3 m4 h
  | true=>exact sWorldOk_yes x.ch x.hands x.deals x.now a b d e p q r s w h1 h2 h3 h4 h
end Go.Proofs.YtkiingmgpobgnaaGreat
set_option linter.unusedSimpArgs false
set_option linter.unusedVariables false
namespace Go.Proofs.YtkiingmgpobgnaaGreat
open Go.RowKit
set_option maxHeartbeats 400000 in
theorem l1Copy_any (l:List Int) (b:Option Addr) (q:Nat) (w:World) (h:Seg w w.heap.size b l.length 1 (intF l)) (hz:b=none→q=0) (hm:l.length≤1099511627776) :
    Calls Tryz.prog 61 #[.slice b l.length q] w fun r w'=>(∃ v,r=.returned v∧OInts w' w.heap.size v l)∧Below w.heap.size w w':=by
  obtain ⟨i0,hi0,hz0,hz1,hz2⟩:=info_parts infoInt
  rcases b with _|⟨bb,bo,sp⟩
  · obtain rfl:=hz rfl
    have hn:l.length=0:=by rcases h with h|⟨_,_,h,_⟩;exact h;cases h
    obtain rfl:l=[]:=List.eq_nil_of_length_eq_zero hn
    go_enter Tryz.func61,Tryz.ntmps61
    go_wp2_with (at_builtin;refine wpList_append_own_none rfl _ _ 25 rfl w.heap.size 2 i0 1 Tryz.underlying25 hi0 _ 0 [] rfl (own_made _ _ _ _ (Nat.le_refl _)) rfl ?_)
    go_ret
    exact ⟨⟨_,rfl,own_made _ _ _ _ (Nat.le_refl _)⟩,by exact zB⟩
  · have HN:Hid (∀ j u,(ints l)[j]?=some u→w.cell? ((⟨bb,bo,sp⟩:Addr).add j)=some u):=by
      rcases h with h0|⟨b',o',e,h1,h2⟩
      · obtain rfl:l=[]:=List.eq_nil_of_length_eq_zero h0
        intro j u hu;simp [ints] at hu
      · simp at e
        obtain ⟨rfl,rfl,rfl⟩:=e
        exact Seg.newsI (.inr ⟨bb,bo,rfl,h1,h2⟩)
    clear h hz
    go_enter Tryz.func61,Tryz.ntmps61
    go_wp2_with (at_builtin;refine wpList_append_own _ rfl _ _ 25 rfl w.heap.size 2 i0 _ 1 8 Tryz.underlying25 hi0 hz0 hz1 hz2 rfl (by decide) _ 0 [] rfl (own_made _ _ _ _ (Nat.le_refl _)) ⟨bb,bo,sp⟩ l.length q (ints l) rfl (by simp [ints]) ?c0 (ints_one l) ?c3 ?c4 ?c5 ?_)
    case c0=>exact fun j u hu=>cell_alloc_of (HN.out j u hu)
    case c3=>unfold maxLen;omega
    case c4=>omega
    case c5=>simp
    intro v w1 hown hg _
    go_wp2
    go_ret
    exact ⟨⟨_,rfl,by simpa using hown⟩,bOwn (by exact zB) hg (by simp) (by simp [Value.ownBlock])⟩
theorem infoCell':(Tryz.prog.info? 52).map (fun i=>(i.zero,i.size,i.bytes))=some (some (.agg #[.int .i64 0,.int .i64 0,.int .i64 0]),3,24):=by kernel_rfl
set_option maxRecDepth 100000 in
set_option maxHeartbeats 1000000 in
theorem l2Copy_any (c:Ch) (a b:Option Addr) (p q:Nat) (w:World) (h1:Seg w w.heap.size a c.cells.length 3 (cellF c.cells)) (z1:a=none→p=0) (h2:Seg w w.heap.size b c.words.length 1 (intF c.words)) (z2:b=none→q=0) (m1:c.cells.length≤1099511627776) (m2:c.words.length≤1099511627776) :
    Calls Tryz.prog 25 #[.agg #[.int .i64 c.cap,.int .i64 c.sent,.int .i64 c.got,.int .i64 c.fin,.slice a c.cells.length p,.slice b c.words.length q]] w fun r w' =>
      (∃ v1 v2,r=.returned (.agg #[.int .i64 c.cap,.int .i64 c.sent,.int .i64 c.got,.int .i64 c.fin,v1,v2])∧OCells w' w.heap.size v1 c.cells∧OInts w' w.heap.size v2 c.words)∧Below w.heap.size w w':=by
  obtain ⟨i0,hi0,hz0,hz1,hz2⟩:=info_parts infoCell'
  obtain ⟨cap,sent,got,fin,cells,words⟩:=c
  simp only at *
  have H2:=Lib.hid h2
  have Z2:=Lib.hid z2
  clear h2 z2
  rcases a with _|⟨bb,bo,sp⟩
  · obtain rfl:=z1 rfl
    have hn:cells.length=0:=by rcases h1 with h|⟨_,_,h,_⟩;exact h;cases h
    obtain rfl:cells=[]:=List.eq_nil_of_length_eq_zero hn
    clear h1 z1 hn m1
    go_enter Tryz.func25,Tryz.ntmps25
    go_wp2_with (at_builtin;refine wpList_append_own_none rfl _ _ 24 rfl (w.heap.size+1+1) 52 i0 3 Tryz.underlying24 hi0 _ 0 [] rfl (own_made_at _ _ _ _ _ (by simp) (by simp)) rfl ?_)
    refine (l1Copy_any words b q _ ((H2.out.below (by exact zB)).more (by simp;try omega)) Z2.out m2).mono ?_
    rintro _ w2 ⟨⟨v2,rfl,hown2⟩,hb2⟩
    have hown3:OCells w2 (w.heap.size+1+1) (.slice (some ⟨w.heap.size+1+1,0,none⟩) 0 0) []:=own_below (own_made_at _ _ _ _ _ (by simp) (by simp)) hb2
    have hown4:=own_lo hown2 (lo':=w.heap.size+1+1) (by simp;try omega)
    obtain ⟨vb,vd,rfl,_⟩:=OInts.seg hown2
    clear hown2
    have hs2:=hb2.size
    simp at hs2
    have hB2:Below w.heap.size w w2:=bT (by exact zB) hb2
    have:=fun o=>hb2.cell (p:=⟨w.heap.size,o,none⟩) (by simp;try omega)
    have:=fun o=>hb2.cell (p:=⟨w.heap.size+1,o,none⟩) (by simp;try omega)
    have:=fun o=>hb2.frozen (p:=⟨w.heap.size,o,none⟩) (by simp;try omega)
    have:=fun o=>hb2.frozen (p:=⟨w.heap.size+1,o,none⟩) (by simp;try omega)
    clear hb2
    have:w.heap.size<w.heap.size+1+1:=by omega
    have:w.heap.size≤w.heap.size+1:=by omega
    go_wp2_with fail
    refine bodyPost_ret (v:=.agg #[.int .i64 cap,.int .i64 sent,.int .i64 got,.int .i64 fin,.slice (some ⟨w.heap.size+1+1,0,none⟩) 0 0,.slice vb words.length vd]) (by simp [results,Tryz.results25,go_sem, *]) rfl ⟨⟨_,_,rfl,?_,?_⟩,?_⟩
    · refine own_lo (lo:=w.heap.size+1+1) ?_ (by omega)
      repeat (first|with_reducible exact hown3|((with_reducible refine own_store ?_ ?_ _);rotate_left;(focus exact own_ne hown3 (by (try simp);try omega))))
    · refine own_lo (lo:=w.heap.size+1+1) ?_ (by omega)
      repeat (first|with_reducible exact hown4|((with_reducible refine own_store ?_ ?_ _);rotate_left;(focus exact own_ne hown4 (by (try simp);try omega))))
    · exact zB
  · have HN:Hid (∀ j u,(flatC cells)[j]?=some u→w.cell? ((⟨bb,bo,sp⟩:Addr).add j)=some u):=by
      rcases h1 with h0|⟨b',o',e,h1,h2⟩
      · obtain rfl:cells=[]:=List.eq_nil_of_length_eq_zero h0
        intro j u hu;simp [flatC] at hu
      · simp at e
        obtain ⟨rfl,rfl,rfl⟩:=e
        exact Seg.newsC (.inr ⟨bb,bo,rfl,h1,h2⟩)
    clear h1 z1
    go_enter Tryz.func25,Tryz.ntmps25
    go_wp2_with (at_builtin;refine wpList_append_own _ rfl _ _ 24 rfl (w.heap.size+1+1) 52 i0 _ 3 24 Tryz.underlying24 hi0 hz0 hz1 hz2 rfl (by decide) _ 0 [] rfl (own_made_at _ _ _ _ _ (by simp) (by simp;try omega)) ⟨bb,bo,sp⟩ cells.length p (flatC cells) rfl (flatC_len cells) ?c0 (flatC_one cells) ?c3 ?c4 ?c5 ?_)
    case c0=>exact fun j u hu=>cell_alloc_of (cell_alloc_of (cell_alloc_of (HN.out j u hu)))
    case c3=>unfold maxLen;omega
    case c4=>omega
    case c5=>(simp;try omega)
    intro v w1 hown hg _
    simp [Value.ownBlock] at hg
    have hs1:=hg.size
    simp at hs1
    have:=rCell (b:=w.heap.size) hg (by simp;omega) (by omega)
    have:=rCell (b:=w.heap.size+1) hg (by simp) (by omega)
    have:=rFroz (b:=w.heap.size) hg (by simp;omega) (by omega)
    have:=rFroz (b:=w.heap.size+1) hg (by simp) (by omega)
    have:w.heap.size<w1.heap.size:=by omega
    have:w.heap.size≤w1.heap.size:=by omega
    have hB1:Below w.heap.size w w1:=bOwn (by exact zB) hg (by simp;omega) (by simp;omega)
    have hown1:OCells w1 (w.heap.size+1+1) v cells:=by simpa using hown
    clear hown
    obtain ⟨va,vc,rfl,_⟩:=OCells.seg hown1
    go_wp2_with fail
    refine (l1Copy_any words b q _ ((H2.out.below hB1).setOther (by simp [World.setCell];omega) (by simp)) Z2.out m2).mono ?_
    rintro _ w2 ⟨⟨v2,rfl,hown2⟩,hb2⟩
    have hown3:=own_below (own_store hown1 (p:=⟨w.heap.size,4,none⟩) (own_ne hown1 (by (try simp);try omega)) (.slice va cells.length vc)) hb2
    have hown4:=own_lo hown2 (lo':=w.heap.size+1+1) (by simp [World.setCell];omega)
    obtain ⟨vb,vd,rfl,_⟩:=OInts.seg hown2
    clear hown2
    have hs2:=hb2.size
    simp [World.setCell] at hs2
    have hB2:Below w.heap.size w w2:=bT (by exact zB) hb2
    have:=fun o=>hb2.cell (p:=⟨w.heap.size,o,none⟩) (by simp [World.setCell];omega)
    have:=fun o=>hb2.cell (p:=⟨w.heap.size+1,o,none⟩) (by simp [World.setCell];omega)
    have:=fun o=>hb2.frozen (p:=⟨w.heap.size,o,none⟩) (by simp [World.setCell];omega)
    have:=fun o=>hb2.frozen (p:=⟨w.heap.size+1,o,none⟩) (by simp [World.setCell];omega)
    clear hb2
    have:w.heap.size<w.heap.size+1+1:=by omega
    have:w.heap.size≤w.heap.size+1:=by omega
    go_wp2_with fail
    refine bodyPost_ret (v:=.agg #[.int .i64 cap,.int .i64 sent,.int .i64 got,.int .i64 fin,.slice va cells.length vc,.slice vb words.length vd]) (by simp [results,Tryz.results25,go_sem, *]) rfl ⟨⟨_,_,rfl,?_,?_⟩,?_⟩
    · refine own_lo (lo:=w.heap.size+1+1) ?_ (by omega)
      repeat (first|with_reducible exact hown3|((with_reducible refine own_store ?_ ?_ _);rotate_left;(focus exact own_ne hown3 (by (try simp);try omega))))
    · refine own_lo (lo:=w.heap.size+1+1) ?_ (by omega)
      repeat (first|with_reducible exact hown4|((with_reducible refine own_store ?_ ?_ _);rotate_left;(focus exact own_ne hown4 (by (try simp);try omega))))
    · exact zB
end Go.Proofs.YtkiingmgpobgnaaGreat
