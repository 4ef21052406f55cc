/-
  Small lemmas on worlds, lists in memory and cells; no condition.
-/
import Derived.Test.YtffhjmepfojhnaaGreatProg
import Derived.WalkKit
import Derived.WalkSpells
import Derived.WalkLawsBesides
import Derived.Lib.Hide
import Derived.BigQuiet
import Derived.Deep.QuietTactic
import Derived.Deep.RegionHeld3
import Derived.StillTailTactics
import Derived.Laws.AppendOwnNone
set_option linter.unusedSimpArgs false
set_option linter.unusedVariables false
namespace Go.Proofs.YtffhjmepfojhnaaGreat
section
open Go.RowKit
theorem bR {n:Nat} {w:World}:Below n w w:=Below.refl _ _
theorem au {P:Program} {f:FuncId} {args:Array Value} {W:World} {Q:Ending→World→Prop} (w:World) (h:Below w.heap.size w W) (k:Below w.heap.size w W→Calls P f args W Q):Calls P f args W Q:=k h
theorem bA {w W:World} {o:Obj} (h:Below w.heap.size w W):Below w.heap.size w (W.alloc o):=h.alloc h.size o
theorem bD {w W:World} (h:Below w.heap.size w W):Below w.heap.size w W.drew:=h.drew
theorem bS {w W:World} {p:Addr} {u:Value} (h:Below w.heap.size w W) (hp:w.heap.size≤p.block):Below w.heap.size w (W.setCell p u):=h.setCell hp u
theorem bT {w W w1:World} (h:Below w.heap.size w W) (k:Below W.heap.size W w1):Below w.heap.size w w1:=h.trans (k.mono h.size)
theorem aZ {a b:Bool} (h:a=b):Ending.returned (.bool a)=.returned (.bool b):=by rw [h]
def dL (n lo hi:Int):Bool:=decide (lo≤n) && decide (n≤hi)
theorem Jk {n lo hi:Int} (h1:lo≤n) (h2:n≤hi):dL n lo hi=true:=by simp [dL,h1,h2]
theorem qK {n lo hi:Int} (h:n<lo∨hi<n):dL n lo hi=false:=by simp [dL];omega
theorem Gi {n lo hi:Int} (h:lo≤n):decide (n≤hi)=dL n lo hi:=by simp [dL,h]
theorem kJ {n lo hi:Int}:dL n lo hi=true↔lo≤n∧n≤hi:=by simp [dL]
def iN (s e t:Int):Bool:=dL s 0 10 && dL e 0 999 && dL t 0 80
theorem DJ {s e t:Int} (h:¬ dL s 0 10=true):false=iN s e t:=by simp [iN,h]
theorem DK {s e t:Int} (h:¬ dL e 0 999=true):false=iN s e t:=by simp [iN,h]
theorem DL {s e t:Int} (h:dL s 0 10=true) (h2:dL e 0 999=true):dL t 0 80=iN s e t:=by simp [iN,h,h2]
theorem MW {a b:Int} {r:Bool} (h:(a != b)=true):false=(a == b && r):=by simp at h;simp [h]
theorem MX {a b:Int} {r:Bool} (h:(a != b)=false):(a == b && r)=r:=by simp at h;simp [h]
def Ob (s e t s' e' t':Int):Bool:=s == s' && (e == e' && (t == t' && true))
theorem Gj (s e t:Int):Ob s e t s e t=true:=by simp [Ob]
def mo (s e t m:Int):Int:=if iN s e t && dL m 0 999 then m else e
theorem Jl {s e t m:Int} (h:¬ iN s e t=true):mo s e t m=e:=by simp [mo,h]
theorem Jm {s e t m:Int} (h:(!dL m 0 999)=true):mo s e t m=e:=by simp at h;simp [mo,h]
theorem Jn {s e t m:Int} (h1:iN s e t=true) (h:(!dL m 0 999)=false):mo s e t m=m:=by simp at h;simp [mo,h1,h]
def jF (s e t f n v:Int):Bool:=s == f && (iN s e t && iN n e v)
def xZ (s e t f n v:Int):Int:=if jF s e t f n v then n else s
def yc (s e t f n v:Int):Int:=if jF s e t f n v then v else t
theorem Gl {s e t f n v:Int} (h:¬ s=f):jF s e t f n v=false:=by simp [jF,h]
theorem vV {s e t f n v:Int} (h:¬ iN s e t=true):jF s e t f n v=false:=by simp [jF,h]
theorem Gm {s e t f n v:Int} (h:(!iN n e v)=true):jF s e t f n v=false:=by simp at h;simp [jF,h]
theorem Gn {s e t n v:Int} (h1:iN s e t=true) (h:(!iN n e v)=false):jF s e t s n v=true:=by simp at h;simp [jF,h,h1]
def pU (s e t f n v:Int) (r:Ending):Prop:=r=.returned (.tuple #[.agg #[.int .i64 (xZ s e t f n v),.int .i64 e,.int .i64 (yc s e t f n v)],.bool (jF s e t f n v)])
theorem oF {s e t f n v:Int} (h:jF s e t f n v=false):pU s e t f n v (.returned (.tuple #[.agg #[.int .i64 s,.int .i64 e,.int .i64 t],.bool false])):=by simp [pU,xZ,yc,h]
theorem uW {s e t f n v:Int} (h:jF s e t f n v=true):pU s e t f n v (.returned (.tuple #[.agg #[.int .i64 n,.int .i64 e,.int .i64 v],.bool true])):=by simp [pU,xZ,yc,h]
def Seg (w:World) (B:Nat) (a:Option Addr) (n k:Nat) (f:Nat→Nat→Value):Prop :=
 n=0∨∃ b o,a=some ⟨b,o,none⟩∧b<B∧∀ i j,i<n→j<k→w.cell? ⟨b,o+i*k+j,none⟩=some (f i j)
def Row (w:World) (b:Nat) (t:TypeId) (n k:Nat) (f:Nat→Nat→Value):Prop :=
 ∃ c:Array Value,w.heap[b]?=some (.cells c t (0,0))∧c.size=n*k∧∀ i j,i<n→j<k→c[i*k+j]?=some (f i j)
namespace Row
variable {w w':World} {b:Nat} {t:TypeId} {n k:Nat} {f g:Nat→Nat→Value}
theorem cell (h:Row w b t n k f) {i j:Nat} (hi:i<n) (hj:j<k):w.cell? ⟨b,i*k+j,none⟩=some (f i j):=by
 obtain ⟨c,hb,_,hc⟩:=h
 simp [World.cell?,hb,hc i j hi hj]
theorem frozen (h:Row w b t n k f) (o:Nat):w.frozen? ⟨b,o,none⟩=false:=by
 obtain ⟨c,hb,_,_⟩:=h
 simp [World.frozen?,hb]
theorem lt (h:Row w b t n k f):b<w.heap.size:=by
 obtain ⟨c,hb,_,_⟩:=h
 obtain ⟨hlt,_⟩:=Array.getElem?_eq_some_iff.1 hb
 exact hlt
theorem congr (h:Row w b t n k f) (e:∀ i j,i<n→j<k→f i j=g i j):Row w b t n k g:=by
 obtain ⟨c,hb,hn,hc⟩:=h
 exact ⟨c,hb,hn,fun i j hi hj=>by rw [hc i j hi hj,e i j hi hj]⟩
theorem of_block (h:Row w b t n k f) (e:w'.heap[b]?=w.heap[b]?):Row w' b t n k f:=by
 obtain ⟨c,hb,hn,hc⟩:=h
 exact ⟨c,e.trans hb,hn,hc⟩
theorem below {B:Nat} (h:Row w b t n k f) (hb:Below B w w') (hB:b<B):Row w' b t n k f:=h.of_block (hb.block b hB)
theorem idx {i j i' j' k:Nat} (hj:j<k) (hj':j'<k) (h:i*k+j=i'*k+j'):i=i'∧j=j':=by
 have h1:(i*k+j) / k=i:=by rw [Nat.mul_comm,Nat.mul_add_div (by omega),Nat.div_eq_of_lt hj];rfl
 have h2:(i'*k+j') / k=i':=by rw [Nat.mul_comm,Nat.mul_add_div (by omega),Nat.div_eq_of_lt hj'];rfl
 have:i=i':=by rw [← h1,← h2,h]
 subst this
 exact ⟨rfl,by omega⟩
theorem set (h:Row w b t n k f) {i j:Nat} (hi:i<n) (hj:j<k) (v:Value):Row (w.setCell ⟨b,i*k+j,none⟩ v) b t n k (fun i' j'=>if i'=i∧j'=j then v else f i' j'):=by
 obtain ⟨c,hb,hn,hc⟩:=h
 refine ⟨c.setIfInBounds (i*k+j) v,?_,by simpa using hn,fun i' j' hi' hj'=>?_⟩
 ·simp [World.setCell,Array.getElem?_modify,hb]
 ·rw [Array.getElem?_setIfInBounds]
  by_cases e:i*k+j=i'*k+j'
  ·obtain ⟨rfl,rfl⟩:=idx hj hj' e
   have hlt:i*k+j<c.size:=(Array.getElem?_eq_some_iff.1 (hc i j hi hj)).1
   simp [hlt]
  ·rw [if_neg e]
   show c[i'*k+j']?=some (if i'=i∧j'=j then v else f i' j')
   rw [if_neg (fun h=>e (by rw [h.1,h.2]))]
   exact hc i' j' hi' hj'
theorem set3 (h:Row w b t n 3 f) {i:Nat} (hi:i<n) (v:Nat→Value) :
  Row (((w.setCell ⟨b,i*3,none⟩ (v 0)).setCell ⟨b,i*3+1,none⟩ (v 1)).setCell ⟨b,i*3+2,none⟩ (v 2)) b t n 3 (fun i' j'=>if i'=i then v j' else f i' j'):=by
 refine (((h.set hi (j:=0) (by omega) (v 0)).set hi (j:=1) (by omega) (v 1)).set hi (j:=2) (by omega) (v 2)).congr fun i' j' _ hj=>?_
 have:j'=0∨j'=1∨j'=2:=by omega
 rcases this with rfl|rfl|rfl <;> by_cases e:i'=i <;> simp [e]
theorem alloc (h:Row w b t n k f) (o:Obj):Row (w.alloc o) b t n k f:=h.of_block (Below.heap_alloc w o b h.lt)
theorem setOther (h:Row w b t n k f) {a:Addr} (ha:b≠a.block) (v:Value):Row (w.setCell a v) b t n k f:=h.of_block (Below.heap_setCell w a v b ha)
theorem seg (h:Row w b t n k f):Seg w w.heap.size (some ⟨b,0,none⟩) n k f:=.inr ⟨b,0,rfl,h.lt,fun i j hi hj=>by simpa using h.cell hi hj⟩
theorem made (w:World) (z:Array Value) (n:Nat) (t:TypeId):Row (w.alloc (.cells (madeCells z (n*z.size)) t)) w.heap.size t n z.size (fun _ j=>z[j]!):=by
 refine ⟨_,heap_alloc_new w _,size_madeCells _ _,fun i j hi hj=>?_⟩
 have hlt:i*z.size+j<n*z.size:=by
  have:=Nat.mul_le_mul_right z.size (show i+1≤n from hi)
  rw [Nat.add_mul] at this
  omega
 simp [madeCells,hlt,Nat.mod_eq_of_lt hj]
end Row
theorem Seg.below {w w':World} {B:Nat} {a:Option Addr} {n k:Nat} {f:Nat→Nat→Value} (h:Seg w B a n k f) (hb:Below B w w'):Seg w' B a n k f:=by
 rcases h with h|⟨b,o,ha,hB,hc⟩
 ·exact .inl h
 ·exact .inr ⟨b,o,ha,hB,fun i j hi hj=>(hb.cell (p:=⟨b,o+i*k+j,none⟩) hB).trans (hc i j hi hj)⟩
theorem Seg.more {w:World} {B B':Nat} {a:Option Addr} {n k:Nat} {f:Nat→Nat→Value} (h:Seg w B a n k f) (hb:B≤B'):Seg w B' a n k f:=by
 rcases h with h|⟨b,o,ha,hB,hc⟩
 ·exact .inl h
 ·exact .inr ⟨b,o,ha,Nat.lt_of_lt_of_le hB hb,hc⟩
theorem Seg.setOther {w:World} {B B':Nat} {a:Option Addr} {n k:Nat} {f:Nat→Nat→Value} {p:Addr} {u:Value} (h:Seg w B a n k f) (hB:B≤B') (hp:B≤p.block):Seg (w.setCell p u) B' a n k f:=by
 rcases h with h|⟨b,o,ha,hb,hc⟩
 ·exact .inl h
 ·exact .inr ⟨b,o,ha,Nat.lt_of_lt_of_le hb hB,fun i j hi hj=>(World.cell?_setCell_other _ _ _ _ (fun e=>by subst e;simp at hp;omega)).trans (hc i j hi hj)⟩
structure C3 where
 s:Int
 e:Int
 t:Int
def C3.val (c:C3) (j:Nat):Value:=match j with|0=>.int .i64 c.s|1=>.int .i64 c.e|_=>.int .i64 c.t
def eT (cs:List C3) (i j:Nat):Value:=(cs.getD i ⟨0,0,0⟩).val j
def MC (c:C3):Bool:=iN c.s c.e c.t
theorem not_true {b:Bool} (h:(!b)=true):b=false:=by simpa using h
theorem not_false {b:Bool} (h:(!b)=false):b=true:=by simpa using h
theorem LM {b:Bool} (h:¬ b=true):b=false:=by simpa using h
theorem jm {a b:Int} (h:a=b):Ending.returned (.int .i64 a)=.returned (.int .i64 b):=by rw [h]
theorem lF (cs:List C3) (k:Nat) (h:k<cs.length):cs.take (k+1)=cs.take k ++ [cs.getD k ⟨0,0,0⟩]:=by
 rw [List.take_succ_eq_append_getElem h];simp [List.getD,List.getElem?_eq_getElem h]
def pV (cs:List C3) (k i j:Nat):Value:=if i<k then eT cs i j else .int .i64 0
theorem Ev {cs:List C3} {k:Nat} {c:C3} (h:cs.getD k ⟨0,0,0⟩=c) (i j:Nat):(if i=k then c.val j else pV cs k i j)=pV cs (k+1) i j:=by
 unfold pV
 by_cases e:i=k
 ·subst e;simp only [if_true];rw [if_pos (by omega),eT,h]
 ·rw [if_neg e]
  by_cases e2:i<k
  ·rw [if_pos e2,if_pos (by omega)]
  ·rw [if_neg e2,if_neg (by omega)]
theorem Gp (cs:List C3):∀ i j,i<cs.length→j<3→pV cs cs.length i j=eT cs i j:=fun i j hi _=>by simp [pV,hi]
theorem zB {lo:Nat} {w W:World} (h:Below lo w W:=by (repeat (with_reducible first|assumption|exact bR|refine bA ?_|refine bD ?_|((first|refine bS ?_ ?_|refine ME ?_ ?_);rotate_left;focus (try simp) <;> (try omega))))):Below lo w W:=h
theorem tS {P:Prop} (h:P:=by (try simp) <;> omega):P:=h
theorem tO {P:Prop} (h:P:=by omega):P:=h
end
section
structure Ch where
 cap:Int
 sent:Int
 got:Int
 fin:Int
 cells:List C3
 words:List Int
structure Ha where
 pos:Int
 code:Int
 elem:Int
 cell:Int
 seen:Int
 wait:Int
 fin:Int
 come:Int
 grow:Int
 mine:Int
 nxt:Int
 beg:Int
 reply:Int
 out:Int
def C3.zero:C3:=⟨0,0,0⟩
def Ch.zero:Ch:=⟨0,0,0,0,[],[]⟩
def Ha.zero:Ha:=⟨0,0,0,0,0,0,0,0,0,0,0,0,0,0⟩
def fe (m:Nat) (c:C3):Bool:=MC c && decide (c.t≤m)
def fo (c:Ch):Bool:=dL c.cap 0 4 && (dL c.sent 0 40 && (dL c.got 0 40 && (dL c.fin 0 40 && (decide (c.cells.length=40) && decide (c.words.length≤80)))))
def aG (c:Ch):Bool:=fo c && (c.cells.all (fe c.words.length) && c.words.all (fun x=>dL x 0 2))
def iD (st:Int):Nat→List C3→List Int
 | _,[]=>[]
 | k,c :: cs=>if c.s == st then (k:Int) :: iD st (k+1) cs else iD st (k+1) cs
def tF (c:Ch) (st:Int):List Int:=iD st 0 c.cells
def keptIn (c:Ch):List Int:=if aG c then (tF c 2).map fun i=>(c.cells.getD i.toNat C3.zero).e else []
def ik (c:Ch) (st:Int):List Int:=if aG c then tF c st else []
def jo (c:Ch) (w:Int):Bool:=dL w 1 c.words.length
def dX (c:Ch) (w:Int):Int:=c.words.getD (w - 1).toNat 0
def gq (c:Ch) (w:Int):Int:=if aG c && jo c w then dX c w else -1
def eU (c:Ch) (w word:Int):Bool:=jo c w && (dX c w == 0 && dL word 1 2)
def dD (c:Ch) (w word:Int):Ch:=if eU c w word then { c with words:=c.words.set (w - 1).toNat word } else c
end
section
def dO (k e:Int):Bool:=(k == 1 && dL e 0 999) || (k == 2 && e == 0)
def kK (k e r:Int):Bool:=dO k e && (dL r 1 4 && ((k == 1 || r != 1) && (k == 2 || r != 2)))
def qL (k e:Int):Bool:=k == 0 && e == 0
def pW (h:Ha):Bool:=dL h.pos 0 25 && (if h.pos == 0 then qL h.code h.elem else dO h.code h.elem)
def uX (h:Ha):Bool:=dL h.cell 0 39 && (dL h.grow 0 39 && (dL h.seen 0 10 && (dL h.wait 0 80 && dL h.mine 0 80)))
def DN (h:Ha):Bool:=dL h.fin 0 40 && (dL h.come 0 40 && (dL h.nxt 0 2 && (dL h.beg 0 20000 && (dL h.reply 0 4 && dL h.out 0 999))))
def bF (h:Ha):Bool:=pW h && (uX h && DN h)
def aS (r o:Int):Ha:=⟨0,0,0,0,0,0,0,0,0,0,0,0,r,o⟩
def begun (k e b:Int):Ha:=⟨if k == 2 then 9 else 1,k,e,0,0,0,0,0,0,0,0,b,0,0⟩
def called (h:Ha) (k e:Int):Ha × Int:=if bF h then (if h.pos == 0 then (if dO k e then (begun k e 0,0) else (h,2)) else (h,1)) else (Ha.zero,3)
end
section
abbrev St:=Ch × Ha × Bool
def aX (c:Ch) (h:Ha) (f t k:Int):Bool:=aG c && (bF h && (dL h.pos f t && (k == 0 || h.code == k)))
def nothing:St:=(Ch.zero,Ha.zero,false)
def done (c:Ch) (h:Ha):St:=if aG c && bF h then (c,h,true) else nothing
def anew (h:Ha):Ha:=begun h.code h.elem h.beg
def cellAt (c:Ch) (i:Int):C3:=c.cells.getD i.toNat ⟨0,0,0⟩
def setAt (c:Ch) (i:Int) (x:C3):Ch:={ c with cells:=c.cells.set i.toNat x }
def bH (c:Ch) (i st:Int):Ch:=setAt c i { cellAt c i with s:=st }
def nH (x:C3) (f t v:Int):C3:=⟨xZ x.s x.e x.t f t v,x.e,yc x.s x.e x.t f t v⟩
def vW (x:C3) (f t v:Int):Bool:=jF x.s x.e x.t f t v
def bf (c:Ch) (i f t v:Int):Ch:=setAt c i (nH (cellAt c i) f t v)
def bn (c:Ch) (i f t v:Int):Bool:=vW (cellAt c i) f t v
def bL (h:Ha) (x:C3):Ha:={ h with seen:=x.s,wait:=x.t }
def je (c:Ch) (h:Ha):Ha × Bool :=
 let x:=cellAt c h.cell
 let y:=bL h x
 if x.s == 0 then ({ y with pos:=4 },true) else if x.s == 1 then ({ y with pos:=6 },true) else if x.s == 4 then ({ y with pos:=7 },true)
 else if x.s == 8 then (anew y,true) else if x.s == 10 then (anew y,true) else (y,false)
def mq (c:Ch) (h:Ha):Ch × Ha:=(dD c h.wait 1,if eU c h.wait 1 then { h with pos:=8 } else anew h)
def eP (c:Ch) (h:Ha) (st th el:Int):Ch × Ha :=
 if 80≤c.words.length then (c,aS 4 0) else
 if bn c h.cell h.seen st (c.words.length+1) then ({ bf c h.cell h.seen st (c.words.length+1) with words:=c.words ++ [0] },{ h with mine:=c.words.length+1,pos:=th })
 else (bf c h.cell h.seen st (c.words.length+1),{ h with pos:=el })
def iE (c:Ch) (h:Ha):St :=
 if h.seen != 0 && h.seen != 1 then nothing else
 if h.seen == 0 && (decide (h.come≤h.cell) && decide (h.fin≤h.cell)) then done (eP c h 3 23 3).1 (eP c h 3 23 3).2 else
 if bn c h.cell h.seen 2 0 then done (bf c h.cell h.seen 2 0) (aS 1 0) else done (bf c h.cell h.seen 2 0) { h with pos:=3 }
def DR (c:Ch) (h:Ha):St:=if c.sent == 40 then done c (aS 4 0) else done { c with sent:=c.sent+1 } { h with cell:=c.sent,pos:=2 }
def yg (c:Ch) (i m:Int):Ch:=setAt c i { cellAt c i with e:=mo (cellAt c i).s (cellAt c i).e (cellAt c i).t m }
def Gq (c:Ch) (h:Ha):St:=done (yg c h.cell h.elem) { h with pos:=3 }
def DT (c:Ch) (h:Ha):St:=if (je c h).2 then done c (je c h).1 else nothing
def bK (c:Ch) (h:Ha):St :=
 if aX c h 1 8 1 then
  if h.pos == 1 then DR c h else if h.pos == 2 then Gq c h else if h.pos == 3 then DT c h
  else if h.pos == 4 then done c { h with fin:=c.fin,pos:=5 } else if h.pos == 5 then done c { h with come:=c.got,pos:=6 }
  else if h.pos == 6 then iE c h else if h.pos == 7 then done (mq c h).1 (mq c h).2 else done (bH c h.cell 7) (aS 1 0)
 else nothing
end
section
open Go.RowKit
theorem Lm {g b:Nat} {w w1:World} (h:w.grownBy w1 (some g)) (hb:b<w.heap.size) (hn:b≠g) (o:Nat):w1.cell? ⟨b,o,none⟩=w.cell? ⟨b,o,none⟩:=World.cell?_of_block (h.block b hb (by simpa using hn))
theorem Lp {g b:Nat} {w w1:World} (h:w.grownBy w1 (some g)) (hb:b<w.heap.size) (hn:b≠g) (o:Nat):w1.frozen? ⟨b,o,none⟩=w.frozen? ⟨b,o,none⟩:=World.frozen?_of_block (h.block b hb (by simpa using hn))
def fP (l:List Int) (i _j:Nat):Value:=.int .i64 (l.getD i 0)
abbrev eY (w:World) (B:Nat) (a:Option Addr) (cs:List C3):Prop:=Seg w B a cs.length 3 (eT cs)
abbrev eZ (w:World) (B:Nat) (a:Option Addr) (l:List Int):Prop:=Seg w B a l.length 1 (fP l)
def gU (cs:List C3):List Value:=cs.flatMap fun c=>[.int .i64 c.s,.int .i64 c.e,.int .i64 c.t]
theorem Bb (cs:List C3) (c:C3):gU (cs ++ [c])=gU cs ++ [.int .i64 c.s,.int .i64 c.e,.int .i64 c.t]:=by simp [gU]
theorem il (cs:List C3):(gU cs).length=cs.length*3:=by
 induction cs with
 | nil=>rfl
 | cons c cs ih=>simp [gU] at *;omega
theorem iO:∀ (cs:List C3) (i j:Nat),i<cs.length→j<3→(gU cs)[i*3+j]?=some (eT cs i j)
 | [],i,j,hi,_=>by simp at hi
 | c :: cs,0,j,_,hj=>by
  have:j=0∨j=1∨j=2:=by omega
  rcases this with rfl|rfl|rfl <;> simp [gU,eT,C3.val]
 | c :: cs,i+1,j,hi,hj=>by
  have h:=iO cs i j (by simpa using hi) hj
  have e:(i+1)*3+j=(i*3+j)+3:=by omega
  rw [e]
  simpa [gU,eT] using h
theorem uY (cs:List C3):∀ u ∈ gU cs,u.oneCell'=true:=by
 intro u hu
 simp only [gU,List.mem_flatMap] at hu
 obtain ⟨c,_,hc⟩:=hu
 simp at hc
 rcases hc with rfl|rfl|rfl <;> rfl
def ints (l:List Int):List Value:=l.map (Value.int .i64)
theorem yh (l:List Int):∀ u ∈ ints l,u.oneCell'=true:=by
 intro u hu
 obtain ⟨x,_,rfl⟩:=List.mem_map.1 hu
 rfl
theorem lI {w W w1:World} {lo:Nat} {row:Option Nat} (h:Below lo w W) (hg:W.grownBy w1 row) (hB:lo≤W.heap.size) (hr:∀ k,row=some k→lo≤k):Below lo w w1:=h.grown hg hB hr
abbrev ah (w:World) (lo:Nat) (v:Value) (cs:List C3):Prop:=w.ownsRow lo 93 3 v cs.length (gU cs)
abbrev ai (w:World) (lo:Nat) (v:Value) (l:List Int):Prop:=w.ownsRow lo 2 1 v l.length (ints l)
theorem ah.seg {w:World} {lo:Nat} {v:Value} {cs:List C3} (h:ah w lo v cs):∃ (a:Option Addr) (cap:Nat),v=.slice a cs.length cap∧Seg w w.heap.size a cs.length 3 (eT cs):=by
 rcases h.2 with ⟨rfl,h0⟩|⟨g,cap,cur,rfl,_,hg,_⟩
 ·exact ⟨none,0,by rw [h0],.inl h0⟩
 ·refine ⟨_,cap,rfl,.inr ⟨g,0,rfl,(Array.getElem?_eq_some_iff.1 hg).1,fun i j hi hj=>?_⟩⟩
  have:=h.cells (g:=g) rfl (i*3+j) _ (iO cs i j hi hj)
  rw [← this]
  congr 1
  by_cases e:i*3+j=0 <;> simp [Addr.add,e] <;> omega
theorem ai.seg {w:World} {lo:Nat} {v:Value} {l:List Int} (h:ai w lo v l):∃ (a:Option Addr) (cap:Nat),v=.slice a l.length cap∧Seg w w.heap.size a l.length 1 (fP l):=by
 rcases h.2 with ⟨rfl,h0⟩|⟨g,cap,cur,rfl,_,hg,_⟩
 ·exact ⟨none,0,by rw [h0],.inl h0⟩
 ·refine ⟨_,cap,rfl,.inr ⟨g,0,rfl,(Array.getElem?_eq_some_iff.1 hg).1,fun i j hi hj=>?_⟩⟩
  have hj0:j=0:=by omega
  subst hj0
  have:=h.cells (g:=g) rfl i (fP l i 0) (by simp [ints,fP,List.getD,hi])
  rw [← this]
  congr 1
  by_cases e:i=0 <;> simp [Addr.add,e] <;> omega
theorem ai.snoc {w:World} {lo:Nat} {v:Value} {l:List Int} {x:Int} (h:w.ownsRow lo 2 1 v (l.length+1) (ints l ++ [.int .i64 x])):ai w lo v (l ++ [x]):=by
 have e:ints (l ++ [x])=ints l ++ [.int .i64 x]:=by simp [ints]
 unfold ai
 rw [e,List.length_append]
 exact h
theorem ah.snoc {w:World} {lo:Nat} {v:Value} {cs:List C3} {c:C3} (h:w.ownsRow lo 93 3 v (cs.length+1) (gU cs ++ [.int .i64 c.s,.int .i64 c.e,.int .i64 c.t])):ah w lo v (cs ++ [c]):=by
 unfold ah
 rw [Bb,List.length_append]
 exact h
theorem Seg.newsC {w:World} {B b o:Nat} {cs:List C3} (h:Seg w B (some ⟨b,o,none⟩) cs.length 3 (eT cs)):∀ j u,(gU cs)[j]?=some u→w.cell? ((⟨b,o,none⟩:Addr).add j)=some u:=by
 intro j u hu
 have hj:j<cs.length*3:=by rw [← il];exact (List.getElem?_eq_some_iff.1 hu).1
 rcases h with h0|⟨b',o',e,_,hc⟩
 ·omega
 ·simp at e
  obtain ⟨rfl,rfl⟩:=e
  have e2:j=j / 3*3+j % 3:=by omega
  have h1:=iO cs (j / 3) (j % 3) tO tO
  rw [← e2] at h1
  have h2:=hc (j / 3) (j % 3) tO tO
  rw [h1] at hu
  simp at hu
  rw [← hu,← h2]
  congr 1
  by_cases e:j=0 <;> simp [Addr.add,e] <;> omega
theorem Seg.newsI {w:World} {B b o:Nat} {l:List Int} (h:Seg w B (some ⟨b,o,none⟩) l.length 1 (fP l)):∀ j u,(ints l)[j]?=some u→w.cell? ((⟨b,o,none⟩:Addr).add j)=some u:=by
 intro j u hu
 have hj:j<l.length:=by have:=(List.getElem?_eq_some_iff.1 hu).1;simpa [ints] using this
 rcases h with h0|⟨b',o',e,_,hc⟩
 ·omega
 ·simp at e
  obtain ⟨rfl,rfl⟩:=e
  have h2:=hc j 0 hj tO
  have:u=fP l j 0:=by simp [ints,hj] at hu;simp [fP,List.getD,hj,← hu]
  rw [this,← h2]
  congr 1
  by_cases e:j=0 <;> simp [Addr.add,e]
theorem kZ (w:World) (lo:Nat) (e:TypeId) (k:Nat) (h:lo≤w.heap.size):(w.alloc (.cells #[] e)).ownsRow lo e k (.slice (some ⟨w.heap.size,0,none⟩) 0 0) 0 [] :=
 World.ownsRow_made w #[] 0 h (by simp) (by simp)
theorem fJ (w:World) (lo:Nat) (e:TypeId) (k n:Nat) (hn:n=w.heap.size) (h:lo≤w.heap.size):(w.alloc (.cells #[] e)).ownsRow lo e k (.slice (some ⟨n,0,none⟩) 0 0) 0 []:=by
 subst hn;exact kZ w lo e k h
theorem gF {w:World} {p:Addr} {u:Value} {o:Obj} (h:w.cell? p=some u):(w.alloc o).cell? p=some u:=by
 rw [World.cell?_alloc_lt _ _ _ (World.block_lt_of_cell? w p h)];exact h
theorem ay {w:World} {lo lo':Nat} {e:TypeId} {k n:Nat} {v:Value} {xs:List Value} (h:w.ownsRow lo e k v n xs) (hl:lo'≤lo):w.ownsRow lo' e k v n xs:=by
 refine ⟨h.1,?_⟩
 rcases h.2 with h|⟨g,cap,cur,h1,h2,h3⟩
 ·exact .inl h
 ·exact .inr ⟨g,cap,cur,h1,Nat.le_trans hl h2,h3⟩
theorem own_ne {w:World} {lo:Nat} {e:TypeId} {k n:Nat} {v:Value} {xs:List Value} (h:w.ownsRow lo e k v n xs) {b:Nat} (hb:b<lo):v.ownBlock≠some b:=fun he=>by have:=(h.lt b he).1;omega
theorem own_below {w w1:World} {lo:Nat} {e:TypeId} {k n:Nat} {v:Value} {xs:List Value} (h:w.ownsRow lo e k v n xs) (hb:Below w.heap.size w w1):w1.ownsRow lo e k v n xs :=
 h.kept (row:=none) ⟨hb.os,hb.tape,hb.output,hb.size,fun i hi _=>hb.block i hi⟩ (by cases v.ownBlock <;> simp)
theorem xS {w:World} {lo:Nat} {e:TypeId} {k n:Nat} {v:Value} {xs:List Value} (h:w.ownsRow lo e k v n xs) (o:Obj):(w.alloc o).ownsRow lo e k v n xs:=World.ownsRow.alloc h o
theorem uZ {w:World} {lo:Nat} {e:TypeId} {k n:Nat} {v:Value} {xs:List Value} (h:w.ownsRow lo e k v n xs):w.drew.ownsRow lo e k v n xs:=h
theorem bP {w:World} {lo:Nat} {e:TypeId} {k n:Nat} {v:Value} {xs:List Value} (h:w.ownsRow lo e k v n xs) {p:Addr} (hp:v.ownBlock≠some p.block) (u:Value):(w.setCell p u).ownsRow lo e k v n xs :=
 h.kept (row:=some p.block) ⟨rfl,rfl,rfl,by simp [World.setCell],fun i _ hn=>Below.heap_setCell w p u i (fun e=>hn (by rw [e]))⟩ (.inr hp)
theorem iV {w:World} {lo:Nat} {e:TypeId} {k g n cap:Nat} {xs:List Value} (h:w.ownsRow lo e k (.slice (some ⟨g,0,none⟩) n cap) n xs) (i:Nat) (hi:i<xs.length) (u:Value) :
  (w.setCell ⟨g,i,none⟩ u).ownsRow lo e k (.slice (some ⟨g,0,none⟩) n cap) n (xs.set i u):=by
 refine ⟨by simpa using h.1,?_⟩
 rcases h.2 with ⟨h0,_⟩|⟨g',cap',cur,h1,h2,h3,h4,h5,h6,h7⟩
 ·simp at h0
 ·simp at h1
  obtain ⟨rfl,rfl⟩:=h1
  refine .inr ⟨g,cap,cur.setIfInBounds i u,rfl,h2,by simp [World.setCell,Array.getElem?_modify,h3],h4,h5,by simpa using h6,?_⟩
  rw [Array.toList_setIfInBounds,← h7,List.take_set]
theorem ints_set (l:List Int) (i:Nat) (x:Int):ints (l.set i x)=(ints l).set i (.int .i64 x):=by simp [ints,List.map_set]
theorem qM (l:List Int):(ints l).length=l.length:=by simp [ints]
theorem oZ:∀ (cs:List C3) (i:Nat) (c:C3),gU (cs.set i c)=(((gU cs).set (i*3) (.int .i64 c.s)).set (i*3+1) (.int .i64 c.e)).set (i*3+2) (.int .i64 c.t)
 | [],i,c=>by simp [gU]
 | d :: cs,0,c=>by simp [gU]
 | d :: cs,i+1,c=>by
  have h:=oZ cs i c
  have e0:(i+1)*3=i*3+3:=by omega
  rw [e0]
  simpa [gU] using h
theorem jI:(Tryz.prog.info? 2).map (fun i=>(i.zero,i.size,i.bytes))=some (some (.int .i64 0),1,8):=by kernel_rfl
abbrev Gr (g:Nat) (w w':World):Prop:=w.grownBy w' (some g)
theorem gR (g:Nat) (w:World):Gr g w w:=⟨rfl,rfl,rfl,Nat.le_refl _,fun _ _ _=>rfl⟩
theorem gD {g:Nat} {w W:World} (h:Gr g w W):Gr g w W.drew:=⟨h.os,h.tape,h.output,h.size,h.block⟩
theorem gA {g:Nat} {w W:World} {o:Obj} (h:Gr g w W):Gr g w (W.alloc o):=⟨h.os,h.tape,h.output,Nat.le_trans h.size (by simp),fun k hk hn=>(Below.heap_alloc W o k (Nat.lt_of_lt_of_le hk h.size)).trans (h.block k hk hn)⟩
theorem gS {g:Nat} {w W:World} {p:Addr} {u:Value} (h:Gr g w W) (hp:p.block=g∨w.heap.size≤p.block):Gr g w (W.setCell p u) :=
 ⟨h.os,h.tape,h.output,by simpa [World.setCell] using h.size,fun k hk hn=>(Below.heap_setCell W p u k (by
  rintro rfl
  rcases hp with hp|hp
  ·exact hn (by rw [hp])
  ·omega)).trans (h.block k hk hn)⟩
theorem gT {g:Nat} {w W w1:World} (h:Gr g w W) (k:Gr g W w1):Gr g w w1 :=
 ⟨k.os.trans h.os,k.tape.trans h.tape,k.output.trans h.output,Nat.le_trans h.size k.size,fun i hi hn=>(k.block i (Nat.lt_of_lt_of_le hi h.size) hn).trans (h.block i hi hn)⟩
theorem qz {g:Nat} {w w1:World} (h:Below w.heap.size w w1):Gr g w w1:=⟨h.os,h.tape,h.output,h.size,fun i hi _=>h.block i hi⟩
theorem zO {w w0 W:World} {lo MZ:Nat} {e e0:TypeId} {k k0 m m0:Nat} {v:Value} {xs Na:List Value} (h:w.ownsRow lo e k v m xs) (H0:w0.ownsRow MZ e0 k0 v m0 Na) (r:w.ownsRow lo e k v m xs→w0.ownsRow MZ e0 k0 v m0 Na→W.ownsRow lo e k v m xs:=by (intro zh zH;repeat first|with_reducible exact zh|with_reducible refine xS ?_ _|with_reducible refine uZ ?_|((with_reducible first|refine bP ?_ ?_ _|refine fI ?_ ?_);rotate_left;focus first|(refine own_ne zH ?_;(try dsimp only);omega)|(refine fU zH ?_;(try dsimp only);omega)))):W.ownsRow lo e k v m xs:=r h H0
theorem zP {w w0 W:World} {lo MZ:Nat} {e e0:TypeId} {k k0 m m0:Nat} {v:Value} {xs Na:List Value} {p q:Nat} (h:w.ownsRow lo e k v m xs) (H0:w0.ownsRow MZ e0 k0 v m0 Na) (f:∀ j,p≤j→j<q→v.ownBlock≠some j) (r:w.ownsRow lo e k v m xs→w0.ownsRow MZ e0 k0 v m0 Na→(∀ j,p≤j→j<q→v.ownBlock≠some j)→W.ownsRow lo e k v m xs:=by (intro zh zH zf;repeat first|with_reducible exact zh|with_reducible refine xS ?_ _|with_reducible refine uZ ?_|((with_reducible first|refine bP ?_ ?_ _|refine fI ?_ ?_);rotate_left;focus first|(refine own_ne zH ?_;(try dsimp only);omega)|(refine fU zH ?_;(try dsimp only);omega)|exact zf _ (by (try dsimp only) <;> omega) (by (try dsimp only) <;> omega)))):W.ownsRow lo e k v m xs:=r h H0 f
theorem mT {P:Program} {ops:Array Oper} {Q:Exit→Act→World→Prop} {md:Region.Mode} {S:World→Prop} {i:Nat} {oi:Oper} {v:Value} {fuel:Nat} {listed:Array Bool} {a:Act} {w:World} (hi:ops[i]?=some oi)
  (h:wpAnyH P md ops Q S fuel (listed.setIfInBounds i true) (a.put oi.dst v) w) (g:Region.wanted oi (yielded ops a.tmps)=true:=by rfl) (y:∀ w,S w→(execOp a.eval oi).run P w=.ok (.value v) w:=by (intro w' hSw;(try dsimp only at hSw);go_simp;(try with_reducible rfl)))
  (hs:Region.noSelect ops=true:=by kernel_rfl) (hf:Region.free md ops listed i=true:=by kernel_rfl) (hr:(Region.ready md ops listed).contains i=true:=by kernel_rfl) (hS:S w:=by assumption)
  (hQ:∀ c a w,Q (.panic c) (a.put oi.dst v) w→Q (.panic c) a w:=by exact fun _ _ _ h=>h):wpAnyH P md ops Q S (fuel+1) listed a w:=wpAnyH_take hi hs hf hr hQ (.inl ⟨g,y⟩) hS h
theorem mS {P:Program} {ops:Array Oper} {Q:Exit→Act→World→Prop} {md:Region.Mode} {S:World→Prop} {i:Nat} {oi:Oper} {fuel:Nat} {listed:Array Bool} {a:Act} {w:World} (hi:ops[i]?=some oi)
  (h:wpAnyH P md ops Q S fuel (listed.setIfInBounds i true) (a.put oi.dst undef) w) (g:Region.wanted oi (yielded ops a.tmps)=false:=by rfl)
  (hs:Region.noSelect ops=true:=by kernel_rfl) (hf:Region.free md ops listed i=true:=by kernel_rfl) (hr:(Region.ready md ops listed).contains i=true:=by kernel_rfl) (hS:S w:=by assumption)
  (hQ:∀ c a w,Q (.panic c) (a.put oi.dst undef) w→Q (.panic c) a w:=by exact fun _ _ _ h=>h):wpAnyH P md ops Q S (fuel+1) listed a w:=wpAnyH_take hi hs hf hr hQ (.inr ⟨g,rfl⟩) hS h
end
section
open Go.RowKit
def Lie (w:World) (b n k:Nat) (f:Nat→Nat→Value):Prop :=
 ∃ (c:Array Value) (t:TypeId),w.heap[b]?=some (.cells c t (0,0))∧n*k≤c.size∧∀ i j,i<n→j<k→c[i*k+j]?=some (f i j)
namespace Lie
variable {w w':World} {b n k:Nat} {f g:Nat→Nat→Value}
theorem cell (h:Lie w b n k f) {i j:Nat} (hi:i<n) (hj:j<k):w.cell? ⟨b,i*k+j,none⟩=some (f i j):=by
 obtain ⟨c,t,hb,_,hc⟩:=h
 simp [World.cell?,hb,hc i j hi hj]
theorem frozen (h:Lie w b n k f) (o:Nat):w.frozen? ⟨b,o,none⟩=false:=by
 obtain ⟨c,t,hb,_,_⟩:=h
 simp [World.frozen?,hb]
theorem lt (h:Lie w b n k f):b<w.heap.size:=by
 obtain ⟨c,t,hb,_,_⟩:=h
 exact (Array.getElem?_eq_some_iff.1 hb).1
theorem congr (h:Lie w b n k f) (e:∀ i j,i<n→j<k→f i j=g i j):Lie w b n k g:=by
 obtain ⟨c,t,hb,hn,hc⟩:=h
 exact ⟨c,t,hb,hn,fun i j hi hj=>by rw [hc i j hi hj,e i j hi hj]⟩
theorem of_block (h:Lie w b n k f) (e:w'.heap[b]?=w.heap[b]?):Lie w' b n k f:=by
 obtain ⟨c,t,hb,hn,hc⟩:=h
 exact ⟨c,t,e.trans hb,hn,hc⟩
theorem below {B:Nat} (h:Lie w b n k f) (hb:Below B w w') (hB:b<B):Lie w' b n k f:=h.of_block (hb.block b hB)
theorem set (h:Lie w b n k f) {i j:Nat} (hi:i<n) (hj:j<k) (v:Value):Lie (w.setCell ⟨b,i*k+j,none⟩ v) b n k (fun i' j'=>if i'=i∧j'=j then v else f i' j'):=by
 obtain ⟨c,t,hb,hn,hc⟩:=h
 refine ⟨c.setIfInBounds (i*k+j) v,t,?_,by simpa using hn,fun i' j' hi' hj'=>?_⟩
 ·simp [World.setCell,Array.getElem?_modify,hb]
 ·rw [Array.getElem?_setIfInBounds]
  by_cases e:i*k+j=i'*k+j'
  ·obtain ⟨rfl,rfl⟩:=Row.idx hj hj' e
   have hlt:i*k+j<c.size:=(Array.getElem?_eq_some_iff.1 (hc i j hi hj)).1
   simp [hlt]
  ·rw [if_neg e]
   show c[i'*k+j']?=some (if i'=i∧j'=j then v else f i' j')
   rw [if_neg (fun h=>e (by rw [h.1,h.2]))]
   exact hc i' j' hi' hj'
theorem set3 (h:Lie w b n 3 f) {i:Nat} (hi:i<n) (v:Nat→Value) :
  Lie (((w.setCell ⟨b,i*3,none⟩ (v 0)).setCell ⟨b,i*3+1,none⟩ (v 1)).setCell ⟨b,i*3+2,none⟩ (v 2)) b n 3 (fun i' j'=>if i'=i then v j' else f i' j'):=by
 refine (((h.set hi (j:=0) tO (v 0)).set hi (j:=1) tO (v 1)).set hi (j:=2) tO (v 2)).congr fun i' j' _ hj=>?_
 have:j'=0∨j'=1∨j'=2:=by omega
 rcases this with rfl|rfl|rfl <;> by_cases e:i'=i <;> simp [e]
theorem set1 (h:Lie w b n 1 f) {i:Nat} (hi:i<n) (v:Value) :
  Lie (w.setCell ⟨b,i,none⟩ v) b n 1 (fun i' j'=>if i'=i then v else f i' j'):=by
 have h1:=h.set hi (j:=0) tO v
 simp only [Nat.mul_one,Nat.add_zero] at h1
 refine h1.congr fun i' j' _ hj=>?_
 have:j'=0:=by omega
 subst this
 by_cases e:i'=i <;> simp [e]
theorem seg (h:Lie w b n k f):Seg w w.heap.size (some ⟨b,0,none⟩) n k f:=.inr ⟨b,0,rfl,h.lt,fun i j hi hj=>by simpa using h.cell hi hj⟩
end Lie
theorem Row.lie {w:World} {b:Nat} {t:TypeId} {n k:Nat} {f:Nat→Nat→Value} (h:Row w b t n k f):Lie w b n k f:=by
 obtain ⟨c,hb,hn,hc⟩:=h
 exact ⟨c,t,hb,Nat.le_of_eq hn.symm,hc⟩
def New (w:World) (lo:Nat) (v:Value) (n k:Nat) (f:Nat→Nat→Value):Prop :=
 (v=.slice none 0 0∧n=0)∨∃ g cap,v=.slice (some ⟨g,0,none⟩) n cap∧lo≤g∧Lie w g n k f
abbrev yj (w:World) (lo:Nat) (v:Value) (l:List Int):Prop:=New w lo v l.length 1 (fP l)
abbrev Jo (w:World) (lo:Nat) (v:Value) (cs:List C3):Prop:=New w lo v cs.length 3 (eT cs)
namespace New
variable {w w1:World} {lo n k:Nat} {v:Value} {f:Nat→Nat→Value}
theorem below (h:New w lo v n k f) (hb:Below w.heap.size w w1):New w1 lo v n k f:=by
 rcases h with h|⟨g,cap,h1,h2,h3⟩
 ·exact .inl h
 ·exact .inr ⟨g,cap,h1,h2,h3.below hb h3.lt⟩
theorem more {lo':Nat} (h:New w lo v n k f) (hl:lo'≤lo):New w lo' v n k f:=by
 rcases h with h|⟨g,cap,h1,h2,h3⟩
 ·exact .inl h
 ·exact .inr ⟨g,cap,h1,Nat.le_trans hl h2,h3⟩
theorem kept {row:Option Nat} (h:New w lo v n k f) (hg:w.grownBy w1 row) (hn:row=none∨v.ownBlock≠row):New w1 lo v n k f:=by
 rcases h with h|⟨g,cap,h1,h2,h3⟩
 ·exact .inl h
 ·refine .inr ⟨g,cap,h1,h2,h3.of_block (hg.block g h3.lt fun e=>?_)⟩
  subst h1
  rcases hn with rfl|hn
  ·cases e
  ·exact hn (by rw [← e];rfl)
theorem seg (h:New w lo v n k f):∃ a cap,v=.slice a n cap∧Seg w w.heap.size a n k f:=by
 rcases h with ⟨rfl,rfl⟩|⟨g,cap,rfl,_,h3⟩
 ·exact ⟨none,0,rfl,.inl rfl⟩
 ·exact ⟨_,cap,rfl,h3.seg⟩
theorem lt (h:New w lo v n k f) {b:Nat} (hb:v.ownBlock=some b):lo≤b∧b<w.heap.size:=by
 rcases h with ⟨rfl,_⟩|⟨g,cap,rfl,h2,h3⟩
 ·cases hb
 ·simp [Value.ownBlock] at hb
  subst hb
  exact ⟨h2,h3.lt⟩
end New
theorem ah.new {w:World} {lo:Nat} {v:Value} {cs:List C3} (h:ah w lo v cs):Jo w lo v cs:=by
 rcases h.2 with ⟨h1,h0⟩|⟨g,cap,cur,rfl,hl,hg,h4,h5,h6,h7⟩
 ·exact .inl ⟨h1,h0⟩
 ·refine .inr ⟨g,cap,rfl,hl,cur,_,hg,?_,fun i j hi hj=>?_⟩
  ·have e:=congrArg List.length h7
   rw [List.length_take,il] at e
   simp at e;omega
  ·have:=h.cells (g:=g) rfl (i*3+j) _ (iO cs i j hi hj)
   have e2:(⟨g,0,none⟩:Addr).add (i*3+j)=⟨g,i*3+j,none⟩:=by generalize i*3+j=m;by_cases e:m=0 <;> simp [Addr.add,e]
   rw [e2] at this
   simpa [World.cell?,hg] using this
theorem ai.new {w:World} {lo:Nat} {v:Value} {l:List Int} (h:ai w lo v l):yj w lo v l:=by
 rcases h.2 with ⟨h1,h0⟩|⟨g,cap,cur,rfl,hl,hg,h4,h5,h6,h7⟩
 ·exact .inl ⟨h1,h0⟩
 ·refine .inr ⟨g,cap,rfl,hl,cur,_,hg,?_,fun i j hi hj=>?_⟩
  ·have e:=congrArg List.length h7
   rw [List.length_take,qM] at e
   simp at e;omega
  ·have hj0:j=0:=by omega
   subst hj0
   have:=h.cells (g:=g) rfl i (fP l i 0) (by simp [ints,fP,List.getD,hi])
   have e2:(⟨g,0,none⟩:Addr).add i=⟨g,i,none⟩:=by by_cases e:i=0 <;> simp [Addr.add,e]
   rw [e2] at this
   simpa [World.cell?,hg] using this
def gV (a b:Option Nat) (w w':World):Prop :=
 w'.os=w.os∧w'.tape=w.tape∧w'.output=w.output∧w.heap.size≤w'.heap.size∧∀ i,i<w.heap.size→some i≠a→some i≠b→w'.heap[i]?=w.heap[i]?
theorem dA {a b:Option Nat} {w W:World} (h:Below w.heap.size w W):gV a b w W:=⟨h.os,h.tape,h.output,h.size,fun i hi _ _=>h.block i hi⟩
theorem fA {a b:Option Nat} {w W w1:World} (h:gV a b w W) (k:gV a b W w1):gV a b w w1 :=
 ⟨k.1.trans h.1,k.2.1.trans h.2.1,k.2.2.1.trans h.2.2.1,Nat.le_trans h.2.2.2.1 k.2.2.2.1,fun i hi h1 h2=>(k.2.2.2.2 i (Nat.lt_of_lt_of_le hi h.2.2.2.1) h1 h2).trans (h.2.2.2.2 i hi h1 h2)⟩
theorem kS {a b:Option Nat} {w W:World} (h:w.grownBy W a):gV a b w W:=⟨h.os,h.tape,h.output,h.size,fun i hi h1 _=>h.block i hi h1⟩
theorem Nb {a b:Option Nat} {w W:World} (h:w.grownBy W b):gV a b w W:=⟨h.os,h.tape,h.output,h.size,fun i hi _ h1=>h.block i hi h1⟩
theorem Bc {a b:Option Nat} {w W w1:World} (h:Below w.heap.size w W) (k:gV a b W w1) (ha:∀ i,a=some i→w.heap.size≤i) (hb:∀ i,b=some i→w.heap.size≤i):Below w.heap.size w w1 :=
 ⟨k.1.trans h.os,k.2.1.trans h.tape,k.2.2.1.trans h.output,Nat.le_trans h.size k.2.2.2.1,fun i hi=>(k.2.2.2.2 i (Nat.lt_of_lt_of_le hi h.size) (fun e=>by have:=ha i e.symm;omega) (fun e=>by have:=hb i e.symm;omega)).trans (h.block i hi)⟩
theorem New.keptO {w w1:World} {lo n k:Nat} {v:Value} {f:Nat→Nat→Value} {a b:Option Nat} (h:New w lo v n k f) (ho:gV a b w w1) (h1:∀ i,v.ownBlock=some i→a≠some i) (h2:∀ i,v.ownBlock=some i→b≠some i):New w1 lo v n k f:=by
 rcases h with h|⟨g,cap,e,h3,h4⟩
 ·exact .inl h
 ·subst e
  exact .inr ⟨g,cap,rfl,h3,h4.of_block (ho.2.2.2.2 g h4.lt (fun e=>h1 g rfl e.symm) (fun e=>h2 g rfl e.symm))⟩
theorem Gs {r:Option Nat} {b:Nat} {w w1:World} (h:w.grownBy w1 r) (hb:b<w.heap.size) (hn:some b≠r) (o:Nat):w1.cell? ⟨b,o,none⟩=w.cell? ⟨b,o,none⟩:=World.cell?_of_block (h.block b hb hn)
theorem PN {w W:World} {r:Option Nat} (o:Obj) (h:(w.alloc o).grownBy W r):w.grownBy W r :=
 ⟨h.os,h.tape,h.output,Nat.le_trans (by simp) h.size,fun i hi hn=>(h.block i (by simp;omega) hn).trans (Below.heap_alloc w o i hi)⟩
theorem LP {r:Option Nat} {b:Nat} {w w1:World} (h:w.grownBy w1 r) (hb:b<w.heap.size) (hn:some b≠r) (o:Nat):w1.frozen? ⟨b,o,none⟩=w.frozen? ⟨b,o,none⟩:=World.frozen?_of_block (h.block b hb hn)
theorem Gg {w W w1:World} {r:Option Nat} (h:Below w.heap.size w W) (k:W.grownBy w1 r):w.grownBy w1 r :=
 ⟨k.os.trans h.os,k.tape.trans h.tape,k.output.trans h.output,Nat.le_trans h.size k.size,fun i hi hn=>(k.block i (Nat.lt_of_lt_of_le hi h.size) hn).trans (h.block i hi)⟩
end
end Go.Proofs.YtffhjmepfojhnaaGreat
