/-
  Small lemmas on worlds, lists in memory and cells; no condition.
  Lists in memory that a call has made itself, and lists that are appended to them; no condition.
  Lists that are made with a number of zeros; at most 1048576 elements.
  The contracts of the laws' helpers on lists of numbers; lists of at most 1048576 elements.
  The contracts of the laws' helpers on cells; lists of at most 1048576 elements.
  What the document's functions of chapters 1 to 12 compute, as plain functions on numbers and lists; no condition.
  The contracts of the laws' helpers on channels; lists of at most 1048576 elements.
  Lists of a call's own that lie from the start of a block on; no condition.
  The laws' helpers that write numbers into a list of the call's own, and that look for them; lists of at most 1048576 elements.
  The laws' helpers that write numbers into a channel of the call's own, and that look for them; lists of at most 1048576 elements.
  What the exact laws' walks share: lists that lie apart, and how long they are; no condition.
  What the document's functions of chapters 4 and 5 compute, as plain functions on numbers; no condition.
  Structs that are kept, loaded and stored as one value; no condition.
  Hands and channels of the program, loaded and stored whole; no condition.
  The laws' own toCall, toHand, eqCall, eqHand; no condition.
-/
import Derived.Test.YthfbnjfppjmgfaaGreatProg
import Derived.WalkKit
import Derived.WalkSpells
import Derived.WalkLawsBesides
import Derived.Lib.Hide
import Derived.BigQuiet
import Derived.Deep.QuietTactic
import Derived.Deep.RegionHeld3
import Derived.StillTailTactics
import Derived.Laws.AppendOwnNone
import Derived.Laws.IdiomCopy
set_option linter.unusedSimpArgs false
set_option linter.unusedVariables false
namespace Go.Proofs.YthfbnjfppjmgfaaGreat
open Go.RowKit
theorem bR {n:Nat} {w:World}:Below n w w:=Below.refl _ _
theorem bHit {P:Program} {f:FuncId} {args:Array Value} {W:World} {Q:Ending→World→Prop} (w:World) (h:Below w.heap.size w W) (k:Below w.heap.size w W→Calls P f args W Q):Calls P f args W Q:=k h
theorem bA {w W:World} {o:Obj} (h:Below w.heap.size w W):Below w.heap.size w (W.alloc o):=h.alloc h.size o
theorem bD {w W:World} (h:Below w.heap.size w W):Below w.heap.size w W.drew:=h.drew
theorem bS {w W:World} {p:Addr} {u:Value} (h:Below w.heap.size w W) (hp:w.heap.size≤p.block):Below w.heap.size w (W.setCell p u):=h.setCell hp u
theorem bT {w W w1:World} (h:Below w.heap.size w W) (k:Below W.heap.size W w1):Below w.heap.size w w1:=h.trans (k.mono h.size)
theorem ret_bool {a b:Bool} (h:a=b):Ending.returned (.bool a)=.returned (.bool b):=by rw [h]
def inB (n lo hi:Int):Bool:=decide (lo≤n) && decide (n≤hi)
theorem inB_yes {n lo hi:Int} (h1:lo≤n) (h2:n≤hi):inB n lo hi=true:=by simp [inB,h1,h2]
theorem inB_no {n lo hi:Int} (h:n<lo∨hi<n):inB n lo hi=false:=by simp [inB];omega
theorem inB_lo {n lo hi:Int} (h:lo≤n):decide (n≤hi)=inB n lo hi:=by simp [inB,h]
theorem inB_iff {n lo hi:Int}:inB n lo hi=true↔lo≤n∧n≤hi:=by simp [inB]
def cellB (s e t:Int):Bool:=inB s 0 10 && inB e 0 999 && inB t 0 80
theorem cellB_1 {s e t:Int} (h:¬ inB s 0 10=true):false=cellB s e t:=by simp [cellB,h]
theorem cellB_2 {s e t:Int} (h:¬ inB e 0 999=true):false=cellB s e t:=by simp [cellB,h]
theorem cellB_3 {s e t:Int} (h:inB s 0 10=true) (h2:inB e 0 999=true):inB t 0 80=cellB s e t:=by simp [cellB,h,h2]
theorem eqB_1 {a b:Int} {r:Bool} (h:(a != b)=true):false=(a == b && r):=by simp at h;simp [h]
theorem eqB_2 {a b:Int} {r:Bool} (h:(a != b)=false):(a == b && r)=r:=by simp at h;simp [h]
def eqC (s e t s' e' t':Int):Bool:=s == s' && (e == e' && (t == t' && true))
theorem eqC_refl (s e t:Int):eqC s e t s e t=true:=by simp [eqC]
def laidF (s e t m:Int):Int:=if cellB s e t && inB m 0 999 then m else e
theorem laidF_1 {s e t m:Int} (h:¬ cellB s e t=true):laidF s e t m=e:=by simp [laidF,h]
theorem laidF_2 {s e t m:Int} (h:(!inB m 0 999)=true):laidF s e t m=e:=by simp at h;simp [laidF,h]
theorem laidF_3 {s e t m:Int} (h1:cellB s e t=true) (h:(!inB m 0 999)=false):laidF s e t m=m:=by simp at h;simp [laidF,h1,h]
def turnB (s e t f n v:Int):Bool:=s == f && (cellB s e t && cellB n e v)
def turnS (s e t f n v:Int):Int:=if turnB s e t f n v then n else s
def turnW (s e t f n v:Int):Int:=if turnB s e t f n v then v else t
theorem turn_1 {s e t f n v:Int} (h:¬ s=f):turnB s e t f n v=false:=by simp [turnB,h]
theorem turn_2 {s e t f n v:Int} (h:¬ cellB s e t=true):turnB s e t f n v=false:=by simp [turnB,h]
theorem turn_3 {s e t f n v:Int} (h:(!cellB n e v)=true):turnB s e t f n v=false:=by simp at h;simp [turnB,h]
theorem turn_4 {s e t n v:Int} (h1:cellB s e t=true) (h:(!cellB n e v)=false):turnB s e t s n v=true:=by simp at h;simp [turnB,h,h1]
def TurnR (s e t f n v:Int) (r:Ending):Prop:=r=.returned (.tuple #[.agg #[.int .i64 (turnS s e t f n v),.int .i64 e,.int .i64 (turnW s e t f n v)],.bool (turnB s e t f n v)])
theorem turnR_no {s e t f n v:Int} (h:turnB s e t f n v=false):TurnR s e t f n v (.returned (.tuple #[.agg #[.int .i64 s,.int .i64 e,.int .i64 t],.bool false])):=by simp [TurnR,turnS,turnW,h]
theorem turnR_yes {s e t f n v:Int} (h:turnB s e t f n v=true):TurnR s e t f n v (.returned (.tuple #[.agg #[.int .i64 n,.int .i64 e,.int .i64 v],.bool true])):=by simp [TurnR,turnS,turnW,h]
/-- n elements of k cells each lie from address a on, below block B; f says what each cell holds. -/
def Seg (w:World) (B:Nat) (a:Option Addr) (n k:Nat) (f:Nat→Nat→Value):Prop :=
  n=0∨∃ b o,a=some ⟨b,o,none⟩∧b<B∧∀ i j,i<n→j<k→w.cell? ⟨b,o+i*k+j,none⟩=some (f i j)
/-- Block b is just n elements of k cells each, of type t, none frozen; f says what each cell holds. -/
def Row (w:World) (b:Nat) (t:TypeId) (n k:Nat) (f:Nat→Nat→Value):Prop :=
  ∃ c:Array Value,w.heap[b]?=some (.cells c t (0,0))∧c.size=n*k∧∀ i j,i<n→j<k→c[i*k+j]?=some (f i j)
namespace Row
variable {w w':World} {b:Nat} {t:TypeId} {n k:Nat} {f g:Nat→Nat→Value}
theorem cell (h:Row w b t n k f) {i j:Nat} (hi:i<n) (hj:j<k):w.cell? ⟨b,i*k+j,none⟩=some (f i j):=by
  obtain ⟨c,hb,_,hc⟩:=h
  simp [World.cell?,hb,hc i j hi hj]
theorem frozen (h:Row w b t n k f) (o:Nat):w.frozen? ⟨b,o,none⟩=false:=by
  obtain ⟨c,hb,_,_⟩:=h
  simp [World.frozen?,hb]
theorem lt (h:Row w b t n k f):b<w.heap.size:=by
  obtain ⟨c,hb,_,_⟩:=h
  obtain ⟨hlt,_⟩:=Array.getElem?_eq_some_iff.1 hb
  exact hlt
theorem congr (h:Row w b t n k f) (e:∀ i j,i<n→j<k→f i j=g i j):Row w b t n k g:=by
  obtain ⟨c,hb,hn,hc⟩:=h
  exact ⟨c,hb,hn,fun i j hi hj=>by rw [hc i j hi hj,e i j hi hj]⟩
theorem of_block (h:Row w b t n k f) (e:w'.heap[b]?=w.heap[b]?):Row w' b t n k f:=by
  obtain ⟨c,hb,hn,hc⟩:=h
  exact ⟨c,e.trans hb,hn,hc⟩
theorem below {B:Nat} (h:Row w b t n k f) (hb:Below B w w') (hB:b<B):Row w' b t n k f:=h.of_block (hb.block b hB)
theorem idx {i j i' j' k:Nat} (hj:j<k) (hj':j'<k) (h:i*k+j=i'*k+j'):i=i'∧j=j':=by
  have h1:(i*k+j) / k=i:=by rw [Nat.mul_comm,Nat.mul_add_div (by omega),Nat.div_eq_of_lt hj];rfl
  have h2:(i'*k+j') / k=i':=by rw [Nat.mul_comm,Nat.mul_add_div (by omega),Nat.div_eq_of_lt hj'];rfl
  have:i=i':=by rw [← h1,← h2,h]
  subst this
  exact ⟨rfl,by omega⟩
theorem set (h:Row w b t n k f) {i j:Nat} (hi:i<n) (hj:j<k) (v:Value):Row (w.setCell ⟨b,i*k+j,none⟩ v) b t n k (fun i' j'=>if i'=i∧j'=j then v else f i' j'):=by
  obtain ⟨c,hb,hn,hc⟩:=h
  refine ⟨c.setIfInBounds (i*k+j) v,?_,by simpa using hn,fun i' j' hi' hj'=>?_⟩
  · simp [World.setCell,Array.getElem?_modify,hb]
  · rw [Array.getElem?_setIfInBounds]
    by_cases e:i*k+j=i'*k+j'
    · obtain ⟨rfl,rfl⟩:=idx hj hj' e
      have hlt:i*k+j<c.size:=(Array.getElem?_eq_some_iff.1 (hc i j hi hj)).1
      simp [hlt]
    · rw [if_neg e]
      show c[i'*k+j']?=some (if i'=i∧j'=j then v else f i' j')
      rw [if_neg (fun h=>e (by rw [h.1,h.2]))]
      exact hc i' j' hi' hj'
theorem set3 (h:Row w b t n 3 f) {i:Nat} (hi:i<n) (v:Nat→Value) :
    Row (((w.setCell ⟨b,i*3,none⟩ (v 0)).setCell ⟨b,i*3+1,none⟩ (v 1)).setCell ⟨b,i*3+2,none⟩ (v 2)) b t n 3 (fun i' j'=>if i'=i then v j' else f i' j'):=by
  refine (((h.set hi (j:=0) (by omega) (v 0)).set hi (j:=1) (by omega) (v 1)).set hi (j:=2) (by omega) (v 2)).congr fun i' j' _ hj=>?_
  have:j'=0∨j'=1∨j'=2:=by omega
  rcases this with rfl|rfl|rfl <;> by_cases e:i'=i <;> simp [e]
theorem alloc (h:Row w b t n k f) (o:Obj):Row (w.alloc o) b t n k f:=h.of_block (Below.heap_alloc w o b h.lt)
theorem setOther (h:Row w b t n k f) {a:Addr} (ha:b≠a.block) (v:Value):Row (w.setCell a v) b t n k f:=h.of_block (Below.heap_setCell w a v b ha)
theorem seg (h:Row w b t n k f):Seg w w.heap.size (some ⟨b,0,none⟩) n k f:=.inr ⟨b,0,rfl,h.lt,fun i j hi hj=>by simpa using h.cell hi hj⟩
theorem made (w:World) (z:Array Value) (n:Nat) (t:TypeId):Row (w.alloc (.cells (madeCells z (n*z.size)) t)) w.heap.size t n z.size (fun _ j=>z[j]!):=by
  refine ⟨_,heap_alloc_new w _,size_madeCells _ _,fun i j hi hj=>?_⟩
  have hlt:i*z.size+j<n*z.size:=by
    have:=Nat.mul_le_mul_right z.size (show i+1≤n from hi)
    rw [Nat.add_mul] at this
    omega
  simp [madeCells,hlt,Nat.mod_eq_of_lt hj]
end Row
theorem Seg.below {w w':World} {B:Nat} {a:Option Addr} {n k:Nat} {f:Nat→Nat→Value} (h:Seg w B a n k f) (hb:Below B w w'):Seg w' B a n k f:=by
  rcases h with h|⟨b,o,ha,hB,hc⟩
  · exact .inl h
  · exact .inr ⟨b,o,ha,hB,fun i j hi hj=>(hb.cell (p:=⟨b,o+i*k+j,none⟩) hB).trans (hc i j hi hj)⟩
theorem Seg.more {w:World} {B B':Nat} {a:Option Addr} {n k:Nat} {f:Nat→Nat→Value} (h:Seg w B a n k f) (hb:B≤B'):Seg w B' a n k f:=by
  rcases h with h|⟨b,o,ha,hB,hc⟩
  · exact .inl h
  · exact .inr ⟨b,o,ha,Nat.lt_of_lt_of_le hB hb,hc⟩
theorem Seg.setOther {w:World} {B B':Nat} {a:Option Addr} {n k:Nat} {f:Nat→Nat→Value} {p:Addr} {u:Value} (h:Seg w B a n k f) (hB:B≤B') (hp:B≤p.block):Seg (w.setCell p u) B' a n k f:=by
  rcases h with h|⟨b,o,ha,hb,hc⟩
  · exact .inl h
  · exact .inr ⟨b,o,ha,Nat.lt_of_lt_of_le hb hB,fun i j hi hj=>(World.cell?_setCell_other _ _ _ _ (fun e=>by subst e;simp at hp;omega)).trans (hc i j hi hj)⟩
structure C3 where
  s:Int
  e:Int
  t:Int
def C3.val (c:C3) (j:Nat):Value:=match j with|0=>.int .i64 c.s|1=>.int .i64 c.e|_=>.int .i64 c.t
def cellF (cs:List C3) (i j:Nat):Value:=(cs.getD i ⟨0,0,0⟩).val j
def okC (c:C3):Bool:=cellB c.s c.e c.t
theorem not_true {b:Bool} (h:(!b)=true):b=false:=by simpa using h
theorem not_false {b:Bool} (h:(!b)=false):b=true:=by simpa using h
theorem ret_i64 {a b:Int} (h:a=b):Ending.returned (.int .i64 a)=.returned (.int .i64 b):=by rw [h]
theorem take_snocC (cs:List C3) (k:Nat) (h:k<cs.length):cs.take (k+1)=cs.take k ++ [cs.getD k ⟨0,0,0⟩]:=by
  rw [List.take_succ_eq_append_getElem h];simp [List.getD,List.getElem?_eq_getElem h]
/-- The first k elements are those of cs, the rest is zero. -/
def partF (cs:List C3) (k i j:Nat):Value:=if i<k then cellF cs i j else .int .i64 0
theorem part_step {cs:List C3} {k:Nat} {c:C3} (h:cs.getD k ⟨0,0,0⟩=c) (i j:Nat):(if i=k then c.val j else partF cs k i j)=partF cs (k+1) i j:=by
  unfold partF
  by_cases e:i=k
  · subst e;simp only [if_true];rw [if_pos (by omega),cellF,h]
  · rw [if_neg e]
    by_cases e2:i<k
    · rw [if_pos e2,if_pos (by omega)]
    · rw [if_neg e2,if_neg (by omega)]
theorem part_end (cs:List C3):∀ i j,i<cs.length→j<3→partF cs cs.length i j=cellF cs i j:=fun i j hi _=>by simp [partF,hi]
/-- What only makes memory, and writes what it has made: shown by its shape. -/
theorem zB {lo:Nat} {w W:World} (h:Below lo w W:=by (repeat (with_reducible first|assumption|exact bR|refine bA ?_|refine bD ?_|((first|refine bS ?_ ?_|refine bBx ?_ ?_);rotate_left;focus (try simp) <;> (try omega))))):Below lo w W:=h
end Go.Proofs.YthfbnjfppjmgfaaGreat
set_option linter.unusedSimpArgs false
set_option linter.unusedVariables false
namespace Go.Proofs.YthfbnjfppjmgfaaGreat
open Go.RowKit
theorem rCell {g b:Nat} {w w1:World} (h:w.grownBy w1 (some g)) (hb:b<w.heap.size) (hn:b≠g) (o:Nat):w1.cell? ⟨b,o,none⟩=w.cell? ⟨b,o,none⟩:=World.cell?_of_block (h.block b hb (by simpa using hn))
theorem rFroz {g b:Nat} {w w1:World} (h:w.grownBy w1 (some g)) (hb:b<w.heap.size) (hn:b≠g) (o:Nat):w1.frozen? ⟨b,o,none⟩=w.frozen? ⟨b,o,none⟩:=World.frozen?_of_block (h.block b hb (by simpa using hn))
def intF (l:List Int) (i _j:Nat):Value:=.int .i64 (l.getD i 0)
def flatC (cs:List C3):List Value:=cs.flatMap fun c=>[.int .i64 c.s,.int .i64 c.e,.int .i64 c.t]
theorem flatC_snoc (cs:List C3) (c:C3):flatC (cs ++ [c])=flatC cs ++ [.int .i64 c.s,.int .i64 c.e,.int .i64 c.t]:=by simp [flatC]
theorem flatC_len (cs:List C3):(flatC cs).length=cs.length*3:=by
  induction cs with
  | nil=>rfl
  | cons c cs ih=>simp [flatC] at *;omega
theorem flatC_get:∀ (cs:List C3) (i j:Nat),i<cs.length→j<3→(flatC cs)[i*3+j]?=some (cellF cs i j)
  | [],i,j,hi,_=>by simp at hi
  | c :: cs,0,j,_,hj=>by
    have:j=0∨j=1∨j=2:=by omega
    rcases this with rfl|rfl|rfl <;> simp [flatC,cellF,C3.val]
  | c :: cs,i+1,j,hi,hj=>by
    have h:=flatC_get cs i j (by simpa using hi) hj
    have e:(i+1)*3+j=(i*3+j)+3:=by omega
    rw [e]
    simpa [flatC,cellF] using h
theorem flatC_one (cs:List C3):∀ u ∈ flatC cs,u.oneCell'=true:=by
  intro u hu
  simp only [flatC,List.mem_flatMap] at hu
  obtain ⟨c,_,hc⟩:=hu
  simp at hc
  rcases hc with rfl|rfl|rfl <;> rfl
def ints (l:List Int):List Value:=l.map (Value.int .i64)
theorem ints_one (l:List Int):∀ u ∈ ints l,u.oneCell'=true:=by
  intro u hu
  obtain ⟨x,_,rfl⟩:=List.mem_map.1 hu
  rfl
theorem bOwn {w W w1:World} {lo:Nat} {row:Option Nat} (h:Below lo w W) (hg:W.grownBy w1 row) (hB:lo≤W.heap.size) (hr:∀ k,row=some k→lo≤k):Below lo w w1:=h.grown hg hB hr
/-- The call's own list of cells, of numbers. -/
abbrev OCells (w:World) (lo:Nat) (v:Value) (cs:List C3):Prop:=w.ownsRow lo 59 3 v cs.length (flatC cs)
abbrev OInts (w:World) (lo:Nat) (v:Value) (l:List Int):Prop:=w.ownsRow lo 2 1 v l.length (ints l)
/-- An own list of cells, of numbers, lies in memory as a list. -/
theorem OCells.seg {w:World} {lo:Nat} {v:Value} {cs:List C3} (h:OCells w lo v cs):∃ (a:Option Addr) (cap:Nat),v=.slice a cs.length cap∧Seg w w.heap.size a cs.length 3 (cellF cs):=by
  rcases h.2 with ⟨rfl,h0⟩|⟨g,cap,cur,rfl,_,hg,_⟩
  · exact ⟨none,0,by rw [h0],.inl h0⟩
  · refine ⟨_,cap,rfl,.inr ⟨g,0,rfl,(Array.getElem?_eq_some_iff.1 hg).1,fun i j hi hj=>?_⟩⟩
    have:=h.cells (g:=g) rfl (i*3+j) _ (flatC_get cs i j hi hj)
    rw [← this]
    congr 1
    by_cases e:i*3+j=0 <;> simp [Addr.add,e] <;> omega
theorem OInts.seg {w:World} {lo:Nat} {v:Value} {l:List Int} (h:OInts w lo v l):∃ (a:Option Addr) (cap:Nat),v=.slice a l.length cap∧Seg w w.heap.size a l.length 1 (intF l):=by
  rcases h.2 with ⟨rfl,h0⟩|⟨g,cap,cur,rfl,_,hg,_⟩
  · exact ⟨none,0,by rw [h0],.inl h0⟩
  · refine ⟨_,cap,rfl,.inr ⟨g,0,rfl,(Array.getElem?_eq_some_iff.1 hg).1,fun i j hi hj=>?_⟩⟩
    have hj0:j=0:=by omega
    subst hj0
    have:=h.cells (g:=g) rfl i (intF l i 0) (by simp [ints,intF,List.getD,hi])
    rw [← this]
    congr 1
    by_cases e:i=0 <;> simp [Addr.add,e] <;> omega
theorem OInts.snoc {w:World} {lo:Nat} {v:Value} {l:List Int} {x:Int} (h:w.ownsRow lo 2 1 v (l.length+1) (ints l ++ [.int .i64 x])):OInts w lo v (l ++ [x]):=by
  have e:ints (l ++ [x])=ints l ++ [.int .i64 x]:=by simp [ints]
  unfold OInts
  rw [e,List.length_append]
  exact h
theorem OCells.snoc {w:World} {lo:Nat} {v:Value} {cs:List C3} {c:C3} (h:w.ownsRow lo 59 3 v (cs.length+1) (flatC cs ++ [.int .i64 c.s,.int .i64 c.e,.int .i64 c.t])):OCells w lo v (cs ++ [c]):=by
  unfold OCells
  rw [flatC_snoc,List.length_append]
  exact h
/-- What lies from an address on, cell by cell. -/
theorem Seg.newsC {w:World} {B b o:Nat} {cs:List C3} (h:Seg w B (some ⟨b,o,none⟩) cs.length 3 (cellF cs)):∀ j u,(flatC cs)[j]?=some u→w.cell? ((⟨b,o,none⟩:Addr).add j)=some u:=by
  intro j u hu
  have hj:j<cs.length*3:=by rw [← flatC_len];exact (List.getElem?_eq_some_iff.1 hu).1
  rcases h with h0|⟨b',o',e,_,hc⟩
  · omega
  · simp at e
    obtain ⟨rfl,rfl⟩:=e
    have e2:j=j / 3*3+j % 3:=by omega
    have h1:=flatC_get cs (j / 3) (j % 3) (by omega) (by omega)
    rw [← e2] at h1
    have h2:=hc (j / 3) (j % 3) (by omega) (by omega)
    rw [h1] at hu
    simp at hu
    rw [← hu,← h2]
    congr 1
    by_cases e:j=0 <;> simp [Addr.add,e] <;> omega
theorem Seg.newsI {w:World} {B b o:Nat} {l:List Int} (h:Seg w B (some ⟨b,o,none⟩) l.length 1 (intF l)):∀ j u,(ints l)[j]?=some u→w.cell? ((⟨b,o,none⟩:Addr).add j)=some u:=by
  intro j u hu
  have hj:j<l.length:=by have:=(List.getElem?_eq_some_iff.1 hu).1;simpa [ints] using this
  rcases h with h0|⟨b',o',e,_,hc⟩
  · omega
  · simp at e
    obtain ⟨rfl,rfl⟩:=e
    have h2:=hc j 0 hj (by omega)
    have:u=intF l j 0:=by simp [ints,hj] at hu;simp [intF,List.getD,hj,← hu]
    rw [this,← h2]
    congr 1
    by_cases e:j=0 <;> simp [Addr.add,e]
/-- An empty row that has just been made. -/
theorem own_made (w:World) (lo:Nat) (e:TypeId) (k:Nat) (h:lo≤w.heap.size):(w.alloc (.cells #[] e)).ownsRow lo e k (.slice (some ⟨w.heap.size,0,none⟩) 0 0) 0 [] :=
  World.ownsRow_made w #[] 0 h (by simp) (by simp)
theorem own_made_at (w:World) (lo:Nat) (e:TypeId) (k n:Nat) (hn:n=w.heap.size) (h:lo≤w.heap.size):(w.alloc (.cells #[] e)).ownsRow lo e k (.slice (some ⟨n,0,none⟩) 0 0) 0 []:=by
  subst hn;exact own_made w lo e k h
theorem cell_alloc_of {w:World} {p:Addr} {u:Value} {o:Obj} (h:w.cell? p=some u):(w.alloc o).cell? p=some u:=by
  rw [World.cell?_alloc_lt _ _ _ (World.block_lt_of_cell? w p h)];exact h
theorem own_lo {w:World} {lo lo':Nat} {e:TypeId} {k n:Nat} {v:Value} {xs:List Value} (h:w.ownsRow lo e k v n xs) (hl:lo'≤lo):w.ownsRow lo' e k v n xs:=by
  refine ⟨h.1,?_⟩
  rcases h.2 with h|⟨g,cap,cur,h1,h2,h3⟩
  · exact .inl h
  · exact .inr ⟨g,cap,cur,h1,Nat.le_trans hl h2,h3⟩
theorem own_ne {w:World} {lo:Nat} {e:TypeId} {k n:Nat} {v:Value} {xs:List Value} (h:w.ownsRow lo e k v n xs) {b:Nat} (hb:b<lo):v.ownBlock≠some b:=fun he=>by have:=(h.lt b he).1;omega
theorem own_below {w w1:World} {lo:Nat} {e:TypeId} {k n:Nat} {v:Value} {xs:List Value} (h:w.ownsRow lo e k v n xs) (hb:Below w.heap.size w w1):w1.ownsRow lo e k v n xs :=
  h.kept (row:=none) ⟨hb.os,hb.tape,hb.output,hb.size,fun i hi _=>hb.block i hi⟩ (by cases v.ownBlock <;> simp)
theorem oAl {w:World} {lo:Nat} {e:TypeId} {k n:Nat} {v:Value} {xs:List Value} (h:w.ownsRow lo e k v n xs) (o:Obj):(w.alloc o).ownsRow lo e k v n xs:=World.ownsRow.alloc h o
theorem oDr {w:World} {lo:Nat} {e:TypeId} {k n:Nat} {v:Value} {xs:List Value} (h:w.ownsRow lo e k v n xs):w.drew.ownsRow lo e k v n xs:=h
theorem own_store {w:World} {lo:Nat} {e:TypeId} {k n:Nat} {v:Value} {xs:List Value} (h:w.ownsRow lo e k v n xs) {p:Addr} (hp:v.ownBlock≠some p.block) (u:Value):(w.setCell p u).ownsRow lo e k v n xs :=
  h.kept (row:=some p.block) ⟨rfl,rfl,rfl,by simp [World.setCell],fun i _ hn=>Below.heap_setCell w p u i (fun e=>hn (by rw [e]))⟩ (.inr hp)
theorem own_set_cell {w:World} {lo:Nat} {e:TypeId} {k g n cap:Nat} {xs:List Value} (h:w.ownsRow lo e k (.slice (some ⟨g,0,none⟩) n cap) n xs) (i:Nat) (hi:i<xs.length) (u:Value) :
    (w.setCell ⟨g,i,none⟩ u).ownsRow lo e k (.slice (some ⟨g,0,none⟩) n cap) n (xs.set i u):=by
  refine ⟨by simpa using h.1,?_⟩
  rcases h.2 with ⟨h0,_⟩|⟨g',cap',cur,h1,h2,h3,h4,h5,h6,h7⟩
  · simp at h0
  · simp at h1
    obtain ⟨rfl,rfl⟩:=h1
    refine .inr ⟨g,cap,cur.setIfInBounds i u,rfl,h2,by simp [World.setCell,Array.getElem?_modify,h3],h4,h5,by simpa using h6,?_⟩
    rw [Array.toList_setIfInBounds,← h7,List.take_set]
theorem ints_set (l:List Int) (i:Nat) (x:Int):ints (l.set i x)=(ints l).set i (.int .i64 x):=by simp [ints,List.map_set]
theorem ints_len (l:List Int):(ints l).length=l.length:=by simp [ints]
theorem flatC_set:∀ (cs:List C3) (i:Nat) (c:C3),flatC (cs.set i c)=(((flatC cs).set (i*3) (.int .i64 c.s)).set (i*3+1) (.int .i64 c.e)).set (i*3+2) (.int .i64 c.t)
  | [],i,c=>by simp [flatC]
  | d :: cs,0,c=>by simp [flatC]
  | d :: cs,i+1,c=>by
    have h:=flatC_set cs i c
    have e0:(i+1)*3=i*3+3:=by omega
    rw [e0]
    simpa [flatC] using h
theorem infoInt:(Tryz.prog.info? 2).map (fun i=>(i.zero,i.size,i.bytes))=some (some (.int .i64 0),1,8):=by kernel_rfl
/-- Only block g may have turned. -/
abbrev Gr (g:Nat) (w w':World):Prop:=w.grownBy w' (some g)
theorem gR (g:Nat) (w:World):Gr g w w:=⟨rfl,rfl,rfl,Nat.le_refl _,fun _ _ _=>rfl⟩
theorem gD {g:Nat} {w W:World} (h:Gr g w W):Gr g w W.drew:=⟨h.os,h.tape,h.output,h.size,h.block⟩
theorem gA {g:Nat} {w W:World} {o:Obj} (h:Gr g w W):Gr g w (W.alloc o):=⟨h.os,h.tape,h.output,Nat.le_trans h.size (by simp),fun k hk hn=>(Below.heap_alloc W o k (Nat.lt_of_lt_of_le hk h.size)).trans (h.block k hk hn)⟩
theorem gS {g:Nat} {w W:World} {p:Addr} {u:Value} (h:Gr g w W) (hp:p.block=g∨w.heap.size≤p.block):Gr g w (W.setCell p u) :=
  ⟨h.os,h.tape,h.output,by simpa [World.setCell] using h.size,fun k hk hn=>(Below.heap_setCell W p u k (by
    rintro rfl
    rcases hp with hp|hp
    · exact hn (by rw [hp])
    · omega)).trans (h.block k hk hn)⟩
theorem gT {g:Nat} {w W w1:World} (h:Gr g w W) (k:Gr g W w1):Gr g w w1 :=
  ⟨k.os.trans h.os,k.tape.trans h.tape,k.output.trans h.output,Nat.le_trans h.size k.size,fun i hi hn=>(k.block i (Nat.lt_of_lt_of_le hi h.size) hn).trans (h.block i hi hn)⟩
theorem gOfB {g:Nat} {w w1:World} (h:Below w.heap.size w w1):Gr g w w1:=⟨h.os,h.tape,h.output,h.size,fun i hi _=>h.block i hi⟩
/-- An own list through boxes that are made and written: shown by its shape. -/
theorem zO {w w0 W:World} {lo lo0:Nat} {e e0:TypeId} {k k0 m m0:Nat} {v:Value} {xs xs0:List Value} (h:w.ownsRow lo e k v m xs) (H0:w0.ownsRow lo0 e0 k0 v m0 xs0) (r:w.ownsRow lo e k v m xs→w0.ownsRow lo0 e0 k0 v m0 xs0→W.ownsRow lo e k v m xs:=by (intro zh zH;repeat first|with_reducible exact zh|with_reducible refine oAl ?_ _|with_reducible refine oDr ?_|((with_reducible first|refine own_store ?_ ?_ _|refine own_box ?_ ?_);rotate_left;focus first|(refine own_ne zH ?_;(try dsimp only);omega)|(refine own_ne' zH ?_;(try dsimp only);omega)))):W.ownsRow lo e k v m xs:=r h H0
theorem zP {w w0 W:World} {lo lo0:Nat} {e e0:TypeId} {k k0 m m0:Nat} {v:Value} {xs xs0:List Value} {p q:Nat} (h:w.ownsRow lo e k v m xs) (H0:w0.ownsRow lo0 e0 k0 v m0 xs0) (f:∀ j,p≤j→j<q→v.ownBlock≠some j) (r:w.ownsRow lo e k v m xs→w0.ownsRow lo0 e0 k0 v m0 xs0→(∀ j,p≤j→j<q→v.ownBlock≠some j)→W.ownsRow lo e k v m xs:=by (intro zh zH zf;repeat first|with_reducible exact zh|with_reducible refine oAl ?_ _|with_reducible refine oDr ?_|((with_reducible first|refine own_store ?_ ?_ _|refine own_box ?_ ?_);rotate_left;focus first|(refine own_ne zH ?_;(try dsimp only);omega)|(refine own_ne' zH ?_;(try dsimp only);omega)|exact zf _ (by (try dsimp only) <;> omega) (by (try dsimp only) <;> omega)))):W.ownsRow lo e k v m xs:=r h H0 f
end Go.Proofs.YthfbnjfppjmgfaaGreat
set_option linter.unusedSimpArgs false
set_option linter.unusedVariables false
namespace Go.Proofs.YthfbnjfppjmgfaaGreat
open Go.RowKit
theorem infoCell:(Tryz.prog.info? 59).map (fun i=>(i.zero,i.size,i.bytes))=some (some (.agg #[.int .i64 0,.int .i64 0,.int .i64 0]),3,24):=by kernel_rfl
theorem mkCells (n:Nat) (h:n≤1048576) (W:World):(Instr.makeSlice 32 (.int .i64 n) (.int .i64 n)).run Tryz.prog W=.ok (.slice (some ⟨W.heap.size,0,none⟩) n n) (W.alloc (.cells (madeCells #[.int .i64 0,.int .i64 0,.int .i64 0] (n*3)) 59)):=by
  obtain ⟨i,hi,hz,hs,hb⟩:=info_parts infoCell
  have:=run_make (P:=Tryz.prog) W 32 59 i _ Tryz.underlying32 hi hz .i64 .i64 n n (by omega) (by omega) (by rw [hb];omega) (by omega)
  rw [this,hs]
  simp [Value.cells]
theorem mkInts (n:Nat) (h:n≤1048576) (W:World):(Instr.makeSlice 23 (.int .i64 n) (.int .i64 n)).run Tryz.prog W=.ok (.slice (some ⟨W.heap.size,0,none⟩) n n) (W.alloc (.cells (madeCells #[.int .i64 0] (n*1)) 2)):=by
  obtain ⟨i,hi,hz,hs,hb⟩:=info_parts infoInt
  have:=run_make (P:=Tryz.prog) W 23 2 i _ Tryz.underlying23 hi hz .i64 .i64 n n (by omega) (by omega) (by rw [hb];omega) (by omega)
  rw [this,hs]
  simp [Value.cells]
end Go.Proofs.YthfbnjfppjmgfaaGreat
set_option linter.unusedSimpArgs false
set_option linter.unusedVariables false
namespace Go.Proofs.YthfbnjfppjmgfaaGreat
open Go.RowKit
def partI (l:List Int) (k i _j:Nat):Value:=if i<k then .int .i64 (l.getD i 0) else .int .i64 0
theorem Row.set1 {w:World} {b:Nat} {t:TypeId} {n:Nat} {f:Nat→Nat→Value} (h:Row w b t n 1 f) {i:Nat} (hi:i<n) (v:Value) :
    Row (w.setCell ⟨b,i,none⟩ v) b t n 1 (fun i' j'=>if i'=i then v else f i' j'):=by
  have h1:=h.set hi (j:=0) (by omega) v
  simp only [Nat.mul_one,Nat.add_zero] at h1
  refine h1.congr fun i' j' _ hj=>?_
  have:j'=0:=by omega
  subst this
  by_cases e:i'=i <;> simp [e]
theorem partI_step {l:List Int} {k:Nat} {x:Int} (h:l.getD k 0=x) (i j:Nat):(if i=k then Value.int .i64 x else partI l k i j)=partI l (k+1) i j:=by
  unfold partI
  by_cases e:i=k
  · subst e;rw [if_pos rfl,if_pos (by omega),h]
  · rw [if_neg e]
    by_cases e2:i<k
    · rw [if_pos e2,if_pos (by omega)]
    · rw [if_neg e2,if_neg (by omega)]
theorem partI_end (l:List Int):∀ i j,i<l.length→j<1→partI l l.length i j=intF l i j:=fun i j hi _=>by simp [partI,intF,hi]
set_option maxHeartbeats 400000 in
theorem toInt64S_any (l:List Int) (a:Option Addr) (cap:Nat) (w:World) (h:Seg w w.heap.size a l.length 1 (intF l)) (hm:l.length≤1048576) :
    Calls Tryz.prog 14 #[.slice a l.length cap] w fun r w'=>r=.returned (.slice (some ⟨w.heap.size,0,none⟩) l.length l.length)∧Row w' w.heap.size 2 l.length 1 (intF l)∧Below w.heap.size w w':=by
  have HS:=Lib.hid h
  clear h
  have hmk:=mkInts l.length hm
  have hR0:=(Row.made w #[.int .i64 0] l.length 2).congr (g:=partI l 0) (fun i j _ hj=>by
    have:j=0:=by simp at hj;omega
    subst this;simp [partI])
  go_enter Tryz.func14,Tryz.ntmps14
  go_wp2
  go_loopw [4] (fun i wr=>∃ k:Nat,k≤l.length∧i=.int .i64 k∧Row wr w.heap.size 2 l.length 1 (partI l k)∧Below w.heap.size w wr) (fun i _=>l.length - (intOf i).toNat)
  case atStart=>exact ⟨0,Nat.zero_le _,rfl,by simpa using hR0,(Below.refl _ _).alloc (Nat.le_refl _) _⟩
  case round =>
    obtain ⟨k,hk,rfl,hR,hB⟩:=hrel
    have hs:=hB.size
    have hl:=hR.lt
    by_cases hlt:k<l.length
    · obtain h0|⟨b,o,rfl,hb,hc⟩:=HS.out
      · omega
      have c0:=(hB.cell (p:=⟨b,o+k*1+0,none⟩) hb).trans (hc k 0 hlt (by omega))
      simp only [intF,Nat.add_zero,Nat.mul_one] at c0
      clear hc
      generalize hcg:l.getD k 0=x at c0
      have HC:=Lib.hid hcg
      clear hcg
      have e0:=hR.cell hlt (show 0<1 by omega)
      simp only [Nat.add_zero,Nat.mul_one] at e0
      have f1:=hR.frozen
      go_wp2
      go_roundw
      case rel=>exact ⟨k+1,by omega,by go_num,(hR.set1 hlt (.int .i64 x)).congr (fun i j _ _=>partI_step HC.out i j),by exact zB⟩
      case measure=>simp [intOf];omega
    · have:k=l.length:=by omega
      subst this
      go_wp2
      go_ret
      exact ⟨rfl,hR.congr (partI_end l),hB⟩
theorem bDN' {w W:World} (h:Below w.heap.size w W) (n:Nat):Below w.heap.size w (W.drewN n):=⟨h.os,h.tape,h.output,h.size,h.block⟩
set_option maxRecDepth 100000 in
set_option maxHeartbeats 400000 in
theorem eqInt64S_any (l:List Int) (a a':Option Addr) (cap cap':Nat) (w:World) (h:Seg w w.heap.size a l.length 1 (intF l)) (h':Seg w w.heap.size a' l.length 1 (intF l)) (hm:l.length≤1048576) :
    Calls Tryz.prog 18 #[.slice a l.length cap,.slice a' l.length cap'] w fun r w'=>r=.returned (.bool true)∧Below w.heap.size w w':=by
  have HS:=Lib.hid h
  have HS':=Lib.hid h'
  clear h h'
  go_enter Tryz.func18,Tryz.ntmps18
  go_wp2
  go_loopw [5] (fun i wr=>∃ k:Nat,k≤l.length∧i=.int .i64 k∧Below w.heap.size w wr) (fun i _=>l.length - (intOf i).toNat)
  case atStart=>exact ⟨0,Nat.zero_le _,rfl,Below.refl _ _⟩
  case round =>
    obtain ⟨k,hk,rfl,hB⟩:=hrel
    by_cases hlt:k<l.length
    · obtain h0|⟨b,o,rfl,hb,hc⟩:=HS.out
      · omega
      obtain h0|⟨b',o',rfl,hb',hc'⟩:=HS'.out
      · omega
      have c0:=(hB.cell (p:=⟨b,o+k*1+0,none⟩) hb).trans (hc k 0 hlt (by omega))
      have d0:=(hB.cell (p:=⟨b',o'+k*1+0,none⟩) hb').trans (hc' k 0 hlt (by omega))
      simp only [intF,Nat.add_zero,Nat.mul_one] at c0 d0
      clear hc hc'
      generalize l.getD k 0=x at c0 d0
      have hk0:(0:Int)≤(k:Int):=by omega
      have hk1:(k:Int)<(l.length:Int):=by omega
      go_wp2_with fail
      go_quiet (fail)
      go_wp2
      go_roundw
      case rel=>exact ⟨k+1,by omega,by go_num,bDN' hB _⟩
      case measure=>simp [intOf];omega
    · have:k=l.length:=by omega
      subst this
      go_wp2
      go_ret
      exact ⟨rfl,hB⟩
set_option maxHeartbeats 400000 in
theorem szInt64S_any (n:Nat) (a:Option Addr) (cap:Nat) (left:Int) (w:World) (h0:0≤left) (h1:left≤1048576) (hm:n≤maxLen) :
    Calls Tryz.prog 11 #[.slice a n cap,.int .i64 left] w fun r w'=>r=.returned (.int .i64 (if left<n then -1 else left - n))∧w=w':=by
  unfold maxLen at hm
  by_cases h:left<n
  · have hn:left - n<0:=by omega
    rw [if_pos h]
    clear h
    go_enter Tryz.func11,Tryz.ntmps11
    go_wp2
    go_ret
    exact ⟨rfl,rfl⟩
  · have hn:¬ left - n<0:=by omega
    rw [if_neg h]
    go_enter Tryz.func11,Tryz.ntmps11
    go_wp2
    go_ret
    exact ⟨rfl,rfl⟩
end Go.Proofs.YthfbnjfppjmgfaaGreat
set_option linter.unusedSimpArgs false
set_option linter.unusedVariables false
namespace Go.Proofs.YthfbnjfppjmgfaaGreat
open Go.RowKit
set_option maxHeartbeats 400000 in
theorem toCell_any (s e t:Int) (w:World):Calls Tryz.prog 23 #[.agg #[.int .i64 s,.int .i64 e,.int .i64 t]] w fun r w'=>r=.returned (.agg #[.int .i64 s,.int .i64 e,.int .i64 t])∧Below w.heap.size w w':=by
  go_enter Tryz.func23,Tryz.ntmps23
  go_wp2
  exact bodyPost_ret (v:=.agg #[.int .i64 s,.int .i64 e,.int .i64 t]) (by simp [results,Tryz.results23,go_sem]) rfl ⟨rfl,by exact zB⟩
set_option maxHeartbeats 400000 in
theorem eqCell_any (s e t s' e' t':Int) (w:World):Calls Tryz.prog 24 #[.agg #[.int .i64 s,.int .i64 e,.int .i64 t],.agg #[.int .i64 s',.int .i64 e',.int .i64 t']] w fun r w'=>r=.returned (.bool (eqC s e t s' e' t'))∧Below w.heap.size w w':=by
  go_enter Tryz.func24,Tryz.ntmps24
  go_wp2
  all_goals go_ret
  all_goals refine ⟨ret_bool ?_,by exact zB⟩
  all_goals unfold eqC
  all_goals repeat (rw [eqB_2 ‹_›])
  all_goals first|exact eqB_1 ‹_›|rfl
set_option maxHeartbeats 400000 in
theorem toCellS_any (cs:List C3) (a:Option Addr) (cap:Nat) (w:World) (h:Seg w w.heap.size a cs.length 3 (cellF cs)) (hm:cs.length≤1048576) :
    Calls Tryz.prog 13 #[.slice a cs.length cap] w fun r w'=>r=.returned (.slice (some ⟨w.heap.size,0,none⟩) cs.length cs.length)∧Row w' w.heap.size 59 cs.length 3 (cellF cs)∧Below w.heap.size w w':=by
  have HS:=Lib.hid h
  clear h
  have hmk:=mkCells cs.length hm
  have hR0:=(Row.made w #[.int .i64 0,.int .i64 0,.int .i64 0] cs.length 59).congr (g:=partF cs 0) (fun i j _ hj=>by
    have:j=0∨j=1∨j=2:=by simp at hj;omega
    rcases this with rfl|rfl|rfl <;> simp [partF])
  go_enter Tryz.func13,Tryz.ntmps13
  go_wp2
  go_loopw [4] (fun i wr=>∃ k:Nat,k≤cs.length∧i=.int .i64 k∧Row wr w.heap.size 59 cs.length 3 (partF cs k)∧Below w.heap.size w wr) (fun i _=>cs.length - (intOf i).toNat)
  case atStart=>exact ⟨0,Nat.zero_le _,rfl,hR0,(Below.refl _ _).alloc (Nat.le_refl _) _⟩
  case round =>
    obtain ⟨k,hk,rfl,hR,hB⟩:=hrel
    have hs:=hB.size
    have hl:=hR.lt
    by_cases hlt:k<cs.length
    · obtain h0|⟨b,o,rfl,hb,hc⟩:=HS.out
      · omega
      have c0:=(hB.cell (p:=⟨b,o+k*3+0,none⟩) hb).trans (hc k 0 hlt (by omega))
      have c1:=(hB.cell (p:=⟨b,o+k*3+1,none⟩) hb).trans (hc k 1 hlt (by omega))
      have c2:=(hB.cell (p:=⟨b,o+k*3+2,none⟩) hb).trans (hc k 2 hlt (by omega))
      simp only [cellF,C3.val,Nat.add_zero] at c0 c1 c2
      clear hc
      generalize hcg:cs.getD k ⟨0,0,0⟩=c at c0 c1 c2
      have HC:=Lib.hid hcg
      clear hcg
      go_wp2_with ((go_at_call 23;refine (toCell_any _ _ _ _).mono ?_;rintro _ w1 ⟨rfl,hbw1⟩;have hBw1:Below w.heap.size w w1:=bT (by exact zB) hbw1;have hsw1:=hbw1.size;(try (simp at hsw1)));have hR1:=hR.below hbw1 hl;have e0:=hR1.cell hlt (show 0<3 by omega);have e1:=hR1.cell hlt (show 1<3 by omega);have e2:=hR1.cell hlt (show 2<3 by omega);simp only [Nat.add_zero] at e0;have f1:=hR1.frozen)
      go_roundw
      case rel=>exact ⟨k+1,by omega,by go_num,(hR1.set3 hlt c.val).congr (fun i j _ _=>part_step HC.out i j),by exact zB⟩
      case measure=>simp [intOf];omega
    · have:k=cs.length:=by omega
      subst this
      go_wp2
      go_ret
      exact ⟨rfl,hR.congr (part_end cs),hB⟩
set_option maxRecDepth 100000 in
set_option maxHeartbeats 400000 in
theorem eqCellS_any (cs:List C3) (a a':Option Addr) (cap cap':Nat) (w:World) (h:Seg w w.heap.size a cs.length 3 (cellF cs)) (h':Seg w w.heap.size a' cs.length 3 (cellF cs)) (hm:cs.length≤1048576) :
    Calls Tryz.prog 17 #[.slice a cs.length cap,.slice a' cs.length cap'] w fun r w'=>r=.returned (.bool true)∧Below w.heap.size w w':=by
  have HS:=Lib.hid h
  have HS':=Lib.hid h'
  clear h h'
  go_enter Tryz.func17,Tryz.ntmps17
  go_wp2
  go_loopw [5] (fun i wr=>∃ k:Nat,k≤cs.length∧i=.int .i64 k∧Below w.heap.size w wr) (fun i _=>cs.length - (intOf i).toNat)
  case atStart=>exact ⟨0,Nat.zero_le _,rfl,Below.refl _ _⟩
  case round =>
    obtain ⟨k,hk,rfl,hB⟩:=hrel
    have hs:=hB.size
    by_cases hlt:k<cs.length
    · obtain h0|⟨b,o,rfl,hb,hc⟩:=HS.out
      · omega
      obtain h0|⟨b',o',rfl,hb',hc'⟩:=HS'.out
      · omega
      have c0:=(hB.cell (p:=⟨b,o+k*3+0,none⟩) hb).trans (hc k 0 hlt (by omega))
      have c1:=(hB.cell (p:=⟨b,o+k*3+1,none⟩) hb).trans (hc k 1 hlt (by omega))
      have c2:=(hB.cell (p:=⟨b,o+k*3+2,none⟩) hb).trans (hc k 2 hlt (by omega))
      have d0:=(hB.cell (p:=⟨b',o'+k*3+0,none⟩) hb').trans (hc' k 0 hlt (by omega))
      have d1:=(hB.cell (p:=⟨b',o'+k*3+1,none⟩) hb').trans (hc' k 1 hlt (by omega))
      have d2:=(hB.cell (p:=⟨b',o'+k*3+2,none⟩) hb').trans (hc' k 2 hlt (by omega))
      simp only [cellF,C3.val,Nat.add_zero] at c0 c1 c2 d0 d1 d2
      clear hc hc'
      generalize hcg:cs.getD k ⟨0,0,0⟩=c at c0 c1 c2 d0 d1 d2
      have HC:=Lib.hid hcg
      clear hcg
      have hk0:(0:Int)≤(k:Int):=by omega
      have hk1:(k:Int)<(cs.length:Int):=by omega
      go_wp2_with fail
      go_still_tail 8,(by kernel_rfl)
      go_wp2_with (go_at_call 24;refine (eqCell_any _ _ _ _ _ _ _).mono ?_;rintro _ w1 ⟨rfl,hbw1⟩;have hBw1:Below w.heap.size w w1:=bT (by exact zB) hbw1;have hsw1:=hbw1.size;(try (simp at hsw1)))
      · rename_i hq
        rw [eqC_refl] at hq
        simp at hq
      · go_roundw
        case rel=>exact ⟨k+1,by omega,by go_num,by exact zB⟩
        case measure=>simp [intOf];omega
    · have:k=cs.length:=by omega
      subst this
      go_wp2
      go_ret
      exact ⟨rfl,hB⟩
set_option maxHeartbeats 400000 in
theorem szCellS_any (n:Nat) (a:Option Addr) (cap:Nat) (left:Int) (w:World) (h0:0≤left) (h1:left≤1048576) (hm:n≤maxLen) :
    Calls Tryz.prog 10 #[.slice a n cap,.int .i64 left] w fun r w'=>r=.returned (.int .i64 (if left<n then -1 else left - n))∧w=w':=by
  unfold maxLen at hm
  by_cases h:left<n
  · have hn:left - n<0:=by omega
    rw [if_pos h]
    clear h
    go_enter Tryz.func10,Tryz.ntmps10
    go_wp2
    go_ret
    exact ⟨rfl,rfl⟩
  · have hn:¬ left - n<0:=by omega
    rw [if_neg h]
    go_enter Tryz.func10,Tryz.ntmps10
    go_wp2
    go_ret
    exact ⟨rfl,rfl⟩
end Go.Proofs.YthfbnjfppjmgfaaGreat
set_option linter.unusedSimpArgs false
set_option linter.unusedVariables false
namespace Go.Proofs.YthfbnjfppjmgfaaGreat
structure Ch where
  cap:Int
  sent:Int
  got:Int
  fin:Int
  cells:List C3
  words:List Int
structure Ca where
  code:Int
  elem:Int
structure Ha where
  pos:Int
  code:Int
  elem:Int
  cell:Int
  seen:Int
  wait:Int
  fin:Int
  come:Int
  grow:Int
  mine:Int
  nxt:Int
  beg:Int
  reply:Int
  out:Int
def C3.zero:C3:=⟨0,0,0⟩
def Ch.zero:Ch:=⟨0,0,0,0,[],[]⟩
def Ha.zero:Ha:=⟨0,0,0,0,0,0,0,0,0,0,0,0,0,0⟩
/- Chapter 2 -/
def cellFits (m:Nat) (c:C3):Bool:=okC c && decide (c.t≤m)
def chanHead (c:Ch):Bool:=inB c.cap 0 4 && (inB c.sent 0 40 && (inB c.got 0 40 && (inB c.fin 0 40 && (decide (c.cells.length=40) && decide (c.words.length≤80)))))
def chanOk (c:Ch):Bool:=chanHead c && (c.cells.all (cellFits c.words.length) && c.words.all (fun x=>inB x 0 2))
def hasW (c:Ch) (w:Int):Bool:=inB w 1 c.words.length
def wordAt (c:Ch) (w:Int):Int:=c.words.getD (w - 1).toNat 0
def wordOf (c:Ch) (w:Int):Int:=if chanOk c && hasW c w then wordAt c w else -1
def tellB (c:Ch) (w word:Int):Bool:=hasW c w && (wordAt c w == 0 && inB word 1 2)
def tellC (c:Ch) (w word:Int):Ch:=if tellB c w word then { c with words:=c.words.set (w - 1).toNat word } else c
end Go.Proofs.YthfbnjfppjmgfaaGreat
set_option linter.unusedSimpArgs false
set_option linter.unusedVariables false
namespace Go.Proofs.YthfbnjfppjmgfaaGreat
open Go.RowKit
set_option maxRecDepth 100000 in
set_option maxHeartbeats 1000000 in
theorem toChan_any (c:Ch) (a b:Option Addr) (p q:Nat) (w:World) (h1:Seg w w.heap.size a c.cells.length 3 (cellF c.cells)) (h2:Seg w w.heap.size b c.words.length 1 (intF c.words)) (m1:c.cells.length≤1048576) (m2:c.words.length≤1048576) :
    Calls Tryz.prog 6 #[.agg #[.int .i64 c.cap,.int .i64 c.sent,.int .i64 c.got,.int .i64 c.fin,.slice a c.cells.length p,.slice b c.words.length q]] w fun r w' =>
      (∃ g1 g2,r=.returned (.agg #[.int .i64 c.cap,.int .i64 c.sent,.int .i64 c.got,.int .i64 c.fin,.slice (some ⟨g1,0,none⟩) c.cells.length c.cells.length,.slice (some ⟨g2,0,none⟩) c.words.length c.words.length])∧w.heap.size≤g1∧w.heap.size≤g2∧Row w' g1 59 c.cells.length 3 (cellF c.cells)∧Row w' g2 2 c.words.length 1 (intF c.words))∧Below w.heap.size w w':=by
  obtain ⟨cap,sent,got,fin,cells,words⟩:=c
  simp only at *
  have H1:=Lib.hid h1
  have H2:=Lib.hid h2
  clear h1 h2
  go_enter Tryz.func6,Tryz.ntmps6
  go_wp2_with fail
  refine (toCellS_any cells a p _ (((H1.out).below (by exact zB)).more (by simp;try omega)) m1).mono ?_
  rintro _ w1 ⟨rfl,hR1,hb1⟩
  have hB1:Below w.heap.size w w1:=bT (by exact zB) hb1
  have hs1:=hb1.size
  simp at hs1 hR1
  have:=fun o=>hb1.cell (p:=⟨w.heap.size,o,none⟩) (by simp;try omega)
  have:=fun o=>hb1.frozen (p:=⟨w.heap.size,o,none⟩) (by simp;try omega)
  have:=fun o=>hb1.cell (p:=⟨w.heap.size+1,o,none⟩) (by simp;try omega)
  have:=fun o=>hb1.frozen (p:=⟨w.heap.size+1,o,none⟩) (by simp;try omega)
  have:=fun o=>hb1.cell (p:=⟨w.heap.size+1+1,o,none⟩) (by simp;try omega)
  have:=fun o=>hb1.frozen (p:=⟨w.heap.size+1+1,o,none⟩) (by simp;try omega)
  have:w.heap.size<w.heap.size+1+1:=by omega
  have:w.heap.size≤w.heap.size+1:=by omega
  have:w.heap.size<w1.heap.size:=by omega
  have hl1:=hR1.lt
  go_wp2_with fail
  refine (toInt64S_any words b q _ (((H2.out).below (by exact zB)).more (by simp [World.setCell];try omega)) m2).mono ?_
  rintro _ w2 ⟨rfl,hR2,hb2⟩
  have hB2:Below w.heap.size w w2:=bT (by exact zB) hb2
  have hR3:=(hR1.setOther (a:=⟨w.heap.size+1+1,4,none⟩) (by simp;try omega) (.slice (some ⟨w.heap.size+1+1+1,0,none⟩) cells.length cells.length)).below hb2 (by simp [World.setCell];try omega)
  have hs2:=hb2.size
  simp [World.setCell] at hs2 hR2
  have:=fun o=>hb2.cell (p:=⟨w.heap.size,o,none⟩) (by simp [World.setCell];try omega)
  have:=fun o=>hb2.frozen (p:=⟨w.heap.size,o,none⟩) (by simp [World.setCell];try omega)
  have:=fun o=>hb2.cell (p:=⟨w.heap.size+1,o,none⟩) (by simp [World.setCell];try omega)
  have:=fun o=>hb2.frozen (p:=⟨w.heap.size+1,o,none⟩) (by simp [World.setCell];try omega)
  have:=fun o=>hb2.cell (p:=⟨w.heap.size+1+1,o,none⟩) (by simp [World.setCell];try omega)
  have:=fun o=>hb2.frozen (p:=⟨w.heap.size+1+1,o,none⟩) (by simp [World.setCell];try omega)
  have:w.heap.size+1+1+1≤w1.heap.size:=by omega
  clear hb1 hb2 hR1
  go_wp2_with fail
  refine bodyPost_ret (v:=.agg #[.int .i64 cap,.int .i64 sent,.int .i64 got,.int .i64 fin,.slice (some ⟨w.heap.size+1+1+1,0,none⟩) cells.length cells.length,.slice (some ⟨w1.heap.size,0,none⟩) words.length words.length]) (by simp [results,Tryz.results6,go_sem, *]) rfl ⟨⟨w.heap.size+1+1+1,w1.heap.size,rfl,by omega,by omega,?_,?_⟩,?_⟩
  · repeat (first|with_reducible exact hR3|((with_reducible refine Row.setOther ?_ ?_ _);rotate_left;(focus ((try simp);(try omega)))))
  · repeat (first|with_reducible exact hR2|((with_reducible refine Row.setOther ?_ ?_ _);rotate_left;(focus ((try simp);(try omega)))))
  · exact zB
set_option maxRecDepth 100000 in
set_option maxHeartbeats 1000000 in
theorem eqChan_any (c:Ch) (a b a' b':Option Addr) (p q p' q':Nat) (w:World) (h1:Seg w w.heap.size a c.cells.length 3 (cellF c.cells)) (h2:Seg w w.heap.size b c.words.length 1 (intF c.words)) (h3:Seg w w.heap.size a' c.cells.length 3 (cellF c.cells)) (h4:Seg w w.heap.size b' c.words.length 1 (intF c.words)) (m1:c.cells.length≤1048576) (m2:c.words.length≤1048576) :
    Calls Tryz.prog 9 #[.agg #[.int .i64 c.cap,.int .i64 c.sent,.int .i64 c.got,.int .i64 c.fin,.slice a c.cells.length p,.slice b c.words.length q],.agg #[.int .i64 c.cap,.int .i64 c.sent,.int .i64 c.got,.int .i64 c.fin,.slice a' c.cells.length p',.slice b' c.words.length q']] w fun r w'=>r=.returned (.bool true)∧Below w.heap.size w w':=by
  obtain ⟨cap,sent,got,fin,cells,words⟩:=c
  simp only at *
  have H1:=Lib.hid h1
  have H2:=Lib.hid h2
  have H3:=Lib.hid h3
  have H4:=Lib.hid h4
  clear h1 h2 h3 h4
  go_enter Tryz.func9,Tryz.ntmps9
  go_wp2_with fail
  refine (eqCellS_any cells a a' p p' _ (((H1.out).below (by exact zB)).more (by simp;try omega)) (((H3.out).below (by exact zB)).more (by simp;try omega)) m1).mono ?_
  rintro _ w1 ⟨rfl,hb1⟩
  have hB1:Below w.heap.size w w1:=bT (by exact zB) hb1
  have hs1:=hb1.size
  simp at hs1
  have:=fun o=>hb1.cell (p:=⟨w.heap.size,o,none⟩) (by simp;try omega)
  have:=fun o=>hb1.cell (p:=⟨w.heap.size+1,o,none⟩) (by simp;try omega)
  go_wp2_with fail
  refine (eqInt64S_any words b b' q q' _ (((H2.out).below hB1).more (by omega)) (((H4.out).below hB1).more (by omega)) m2).mono ?_
  rintro _ w2 ⟨rfl,hb2⟩
  have hB2:Below w.heap.size w w2:=bT hB1 hb2
  go_wp2
  go_ret
  exact ⟨rfl,hB2⟩
/-- What is left of a bound behind a list of n elements; -1 where there is too little. -/
def leftN (left:Int) (n:Nat):Int:=if left<n then -1 else left - n
def leftC (left:Int) (c:Ch):Int:=if leftN left c.cells.length<0 then -1 else leftN (leftN left c.cells.length) c.words.length
theorem leftN_no {left:Int} {n:Nat} (h:left<n):leftN left n=-1:=if_pos h
theorem leftN_yes {left:Int} {n:Nat} (h:¬ left<n):leftN left n=left - n:=if_neg h
set_option maxRecDepth 100000 in
set_option maxHeartbeats 1000000 in
theorem szChan_any (c:Ch) (a b:Option Addr) (p q:Nat) (left:Int) (w:World) (h0:0≤left) (h1:left≤1048576) (m1:c.cells.length≤maxLen) (m2:c.words.length≤maxLen) :
    Calls Tryz.prog 4 #[.agg #[.int .i64 c.cap,.int .i64 c.sent,.int .i64 c.got,.int .i64 c.fin,.slice a c.cells.length p,.slice b c.words.length q],.int .i64 left] w fun r w'=>r=.returned (.int .i64 (leftC left c))∧Below w.heap.size w w':=by
  have M1:=Lib.hid m1
  have M2:=Lib.hid m2
  clear m1 m2
  by_cases hc:left<c.cells.length
  · have HV:Hid (-1=leftC left c):=by unfold leftC;rw [leftN_no hc];rfl
    have HQ:Hid ((if left<(c.cells.length:Int) then (-1:Int) else left - c.cells.length)=-1):=if_pos hc
    clear hc
    go_enter Tryz.func4,Tryz.ntmps4
    go_wp2_with fail
    refine (szCellS_any _ _ _ _ _ h0 h1 M1.out).mono ?_
    rintro _ _ ⟨rfl,rfl⟩
    rw [HQ.out]
    go_wp2
    go_ret
    exact ⟨ret_i64 HV.out,by exact zB⟩
  · obtain ⟨l2,e2⟩:∃ l2,l2=left - c.cells.length:=⟨_,rfl⟩
    have HQ:Hid ((if left<(c.cells.length:Int) then (-1:Int) else left - c.cells.length)=l2):=by rw [e2];exact if_neg hc
    have hl0:0≤l2:=by omega
    have hl1:l2≤1048576:=by omega
    have hl2:¬ l2<0:=by omega
    have HL:Hid (leftC left c=leftN l2 c.words.length):=by unfold leftC;rw [leftN_yes hc,← e2,if_neg hl2];rfl
    clear hc e2
    by_cases hw:l2<c.words.length
    · have HV:Hid (-1=leftC left c):=by rw [HL.out,leftN_no hw];rfl
      have HQ2:Hid ((if l2<(c.words.length:Int) then (-1:Int) else l2 - c.words.length)=-1):=if_pos hw
      clear hw
      go_enter Tryz.func4,Tryz.ntmps4
      go_wp2_with fail
      refine (szCellS_any _ _ _ _ _ h0 h1 M1.out).mono ?_
      rintro _ _ ⟨rfl,rfl⟩
      rw [HQ.out]
      go_wp2_with fail
      refine (szInt64S_any _ _ _ _ _ hl0 hl1 M2.out).mono ?_
      rintro _ _ ⟨rfl,rfl⟩
      rw [HQ2.out]
      go_wp2
      go_ret
      exact ⟨ret_i64 HV.out,by exact zB⟩
    · obtain ⟨l3,e3⟩:∃ l3,l3=l2 - c.words.length:=⟨_,rfl⟩
      have HV:Hid (l3=leftC left c):=by rw [HL.out,leftN_yes hw,e3];rfl
      have HQ2:Hid ((if l2<(c.words.length:Int) then (-1:Int) else l2 - c.words.length)=l3):=by rw [e3];exact if_neg hw
      have hl3:¬ l3<0:=by omega
      clear hw e3
      go_enter Tryz.func4,Tryz.ntmps4
      go_wp2_with fail
      refine (szCellS_any _ _ _ _ _ h0 h1 M1.out).mono ?_
      rintro _ _ ⟨rfl,rfl⟩
      rw [HQ.out]
      go_wp2_with fail
      refine (szInt64S_any _ _ _ _ _ hl0 hl1 M2.out).mono ?_
      rintro _ _ ⟨rfl,rfl⟩
      rw [HQ2.out]
      go_wp2
      go_ret
      exact ⟨ret_i64 HV.out,by exact zB⟩
end Go.Proofs.YthfbnjfppjmgfaaGreat
set_option linter.unusedSimpArgs false
set_option linter.unusedVariables false
namespace Go.Proofs.YthfbnjfppjmgfaaGreat
open Go.RowKit
/-- Block b begins with n elements of k cells each, none frozen; f says what each cell holds. -/
def Lie (w:World) (b n k:Nat) (f:Nat→Nat→Value):Prop :=
  ∃ (c:Array Value) (t:TypeId),w.heap[b]?=some (.cells c t (0,0))∧n*k≤c.size∧∀ i j,i<n→j<k→c[i*k+j]?=some (f i j)
namespace Lie
variable {w w':World} {b n k:Nat} {f g:Nat→Nat→Value}
theorem cell (h:Lie w b n k f) {i j:Nat} (hi:i<n) (hj:j<k):w.cell? ⟨b,i*k+j,none⟩=some (f i j):=by
  obtain ⟨c,t,hb,_,hc⟩:=h
  simp [World.cell?,hb,hc i j hi hj]
theorem frozen (h:Lie w b n k f) (o:Nat):w.frozen? ⟨b,o,none⟩=false:=by
  obtain ⟨c,t,hb,_,_⟩:=h
  simp [World.frozen?,hb]
theorem lt (h:Lie w b n k f):b<w.heap.size:=by
  obtain ⟨c,t,hb,_,_⟩:=h
  exact (Array.getElem?_eq_some_iff.1 hb).1
theorem congr (h:Lie w b n k f) (e:∀ i j,i<n→j<k→f i j=g i j):Lie w b n k g:=by
  obtain ⟨c,t,hb,hn,hc⟩:=h
  exact ⟨c,t,hb,hn,fun i j hi hj=>by rw [hc i j hi hj,e i j hi hj]⟩
theorem of_block (h:Lie w b n k f) (e:w'.heap[b]?=w.heap[b]?):Lie w' b n k f:=by
  obtain ⟨c,t,hb,hn,hc⟩:=h
  exact ⟨c,t,e.trans hb,hn,hc⟩
theorem below {B:Nat} (h:Lie w b n k f) (hb:Below B w w') (hB:b<B):Lie w' b n k f:=h.of_block (hb.block b hB)
theorem set (h:Lie w b n k f) {i j:Nat} (hi:i<n) (hj:j<k) (v:Value):Lie (w.setCell ⟨b,i*k+j,none⟩ v) b n k (fun i' j'=>if i'=i∧j'=j then v else f i' j'):=by
  obtain ⟨c,t,hb,hn,hc⟩:=h
  refine ⟨c.setIfInBounds (i*k+j) v,t,?_,by simpa using hn,fun i' j' hi' hj'=>?_⟩
  · simp [World.setCell,Array.getElem?_modify,hb]
  · rw [Array.getElem?_setIfInBounds]
    by_cases e:i*k+j=i'*k+j'
    · obtain ⟨rfl,rfl⟩:=Row.idx hj hj' e
      have hlt:i*k+j<c.size:=(Array.getElem?_eq_some_iff.1 (hc i j hi hj)).1
      simp [hlt]
    · rw [if_neg e]
      show c[i'*k+j']?=some (if i'=i∧j'=j then v else f i' j')
      rw [if_neg (fun h=>e (by rw [h.1,h.2]))]
      exact hc i' j' hi' hj'
theorem set3 (h:Lie w b n 3 f) {i:Nat} (hi:i<n) (v:Nat→Value) :
    Lie (((w.setCell ⟨b,i*3,none⟩ (v 0)).setCell ⟨b,i*3+1,none⟩ (v 1)).setCell ⟨b,i*3+2,none⟩ (v 2)) b n 3 (fun i' j'=>if i'=i then v j' else f i' j'):=by
  refine (((h.set hi (j:=0) (by omega) (v 0)).set hi (j:=1) (by omega) (v 1)).set hi (j:=2) (by omega) (v 2)).congr fun i' j' _ hj=>?_
  have:j'=0∨j'=1∨j'=2:=by omega
  rcases this with rfl|rfl|rfl <;> by_cases e:i'=i <;> simp [e]
theorem set1 (h:Lie w b n 1 f) {i:Nat} (hi:i<n) (v:Value) :
    Lie (w.setCell ⟨b,i,none⟩ v) b n 1 (fun i' j'=>if i'=i then v else f i' j'):=by
  have h1:=h.set hi (j:=0) (by omega) v
  simp only [Nat.mul_one,Nat.add_zero] at h1
  refine h1.congr fun i' j' _ hj=>?_
  have:j'=0:=by omega
  subst this
  by_cases e:i'=i <;> simp [e]
theorem seg (h:Lie w b n k f):Seg w w.heap.size (some ⟨b,0,none⟩) n k f:=.inr ⟨b,0,rfl,h.lt,fun i j hi hj=>by simpa using h.cell hi hj⟩
end Lie
theorem Row.lie {w:World} {b:Nat} {t:TypeId} {n k:Nat} {f:Nat→Nat→Value} (h:Row w b t n k f):Lie w b n k f:=by
  obtain ⟨c,hb,hn,hc⟩:=h
  exact ⟨c,t,hb,Nat.le_of_eq hn.symm,hc⟩
/-- A list of n elements that is nothing, or lies from the start of a block on that is at or above lo. -/
def New (w:World) (lo:Nat) (v:Value) (n k:Nat) (f:Nat→Nat→Value):Prop :=
  (v=.slice none 0 0∧n=0)∨∃ g cap,v=.slice (some ⟨g,0,none⟩) n cap∧lo≤g∧Lie w g n k f
abbrev NewI (w:World) (lo:Nat) (v:Value) (l:List Int):Prop:=New w lo v l.length 1 (intF l)
abbrev NewC (w:World) (lo:Nat) (v:Value) (cs:List C3):Prop:=New w lo v cs.length 3 (cellF cs)
namespace New
variable {w w1:World} {lo n k:Nat} {v:Value} {f:Nat→Nat→Value}
theorem below (h:New w lo v n k f) (hb:Below w.heap.size w w1):New w1 lo v n k f:=by
  rcases h with h|⟨g,cap,h1,h2,h3⟩
  · exact .inl h
  · exact .inr ⟨g,cap,h1,h2,h3.below hb h3.lt⟩
theorem more {lo':Nat} (h:New w lo v n k f) (hl:lo'≤lo):New w lo' v n k f:=by
  rcases h with h|⟨g,cap,h1,h2,h3⟩
  · exact .inl h
  · exact .inr ⟨g,cap,h1,Nat.le_trans hl h2,h3⟩
theorem kept {row:Option Nat} (h:New w lo v n k f) (hg:w.grownBy w1 row) (hn:row=none∨v.ownBlock≠row):New w1 lo v n k f:=by
  rcases h with h|⟨g,cap,h1,h2,h3⟩
  · exact .inl h
  · refine .inr ⟨g,cap,h1,h2,h3.of_block (hg.block g h3.lt fun e=>?_)⟩
    subst h1
    rcases hn with rfl|hn
    · cases e
    · exact hn (by rw [← e];rfl)
theorem seg (h:New w lo v n k f):∃ a cap,v=.slice a n cap∧Seg w w.heap.size a n k f:=by
  rcases h with ⟨rfl,rfl⟩|⟨g,cap,rfl,_,h3⟩
  · exact ⟨none,0,rfl,.inl rfl⟩
  · exact ⟨_,cap,rfl,h3.seg⟩
theorem lt (h:New w lo v n k f) {b:Nat} (hb:v.ownBlock=some b):lo≤b∧b<w.heap.size:=by
  rcases h with ⟨rfl,_⟩|⟨g,cap,rfl,h2,h3⟩
  · cases hb
  · simp [Value.ownBlock] at hb
    subst hb
    exact ⟨h2,h3.lt⟩
end New
theorem OCells.new {w:World} {lo:Nat} {v:Value} {cs:List C3} (h:OCells w lo v cs):NewC w lo v cs:=by
  rcases h.2 with ⟨h1,h0⟩|⟨g,cap,cur,rfl,hl,hg,h4,h5,h6,h7⟩
  · exact .inl ⟨h1,h0⟩
  · refine .inr ⟨g,cap,rfl,hl,cur,_,hg,?_,fun i j hi hj=>?_⟩
    · have e:=congrArg List.length h7
      rw [List.length_take,flatC_len] at e
      simp at e;omega
    · have:=h.cells (g:=g) rfl (i*3+j) _ (flatC_get cs i j hi hj)
      have e2:(⟨g,0,none⟩:Addr).add (i*3+j)=⟨g,i*3+j,none⟩:=by generalize i*3+j=m;by_cases e:m=0 <;> simp [Addr.add,e]
      rw [e2] at this
      simpa [World.cell?,hg] using this
theorem OInts.new {w:World} {lo:Nat} {v:Value} {l:List Int} (h:OInts w lo v l):NewI w lo v l:=by
  rcases h.2 with ⟨h1,h0⟩|⟨g,cap,cur,rfl,hl,hg,h4,h5,h6,h7⟩
  · exact .inl ⟨h1,h0⟩
  · refine .inr ⟨g,cap,rfl,hl,cur,_,hg,?_,fun i j hi hj=>?_⟩
    · have e:=congrArg List.length h7
      rw [List.length_take,ints_len] at e
      simp at e;omega
    · have hj0:j=0:=by omega
      subst hj0
      have:=h.cells (g:=g) rfl i (intF l i 0) (by simp [ints,intF,List.getD,hi])
      have e2:(⟨g,0,none⟩:Addr).add i=⟨g,i,none⟩:=by by_cases e:i=0 <;> simp [Addr.add,e]
      rw [e2] at this
      simpa [World.cell?,hg] using this
/-- Of what was there, the blocks a and b alone may have turned. -/
def Onl (a b:Option Nat) (w w':World):Prop :=
  w'.os=w.os∧w'.tape=w.tape∧w'.output=w.output∧w.heap.size≤w'.heap.size∧∀ i,i<w.heap.size→some i≠a→some i≠b→w'.heap[i]?=w.heap[i]?
theorem onlB {a b:Option Nat} {w W:World} (h:Below w.heap.size w W):Onl a b w W:=⟨h.os,h.tape,h.output,h.size,fun i hi _ _=>h.block i hi⟩
theorem onlT {a b:Option Nat} {w W w1:World} (h:Onl a b w W) (k:Onl a b W w1):Onl a b w w1 :=
  ⟨k.1.trans h.1,k.2.1.trans h.2.1,k.2.2.1.trans h.2.2.1,Nat.le_trans h.2.2.2.1 k.2.2.2.1,fun i hi h1 h2=>(k.2.2.2.2 i (Nat.lt_of_lt_of_le hi h.2.2.2.1) h1 h2).trans (h.2.2.2.2 i hi h1 h2)⟩
theorem onl1 {a b:Option Nat} {w W:World} (h:w.grownBy W a):Onl a b w W:=⟨h.os,h.tape,h.output,h.size,fun i hi h1 _=>h.block i hi h1⟩
theorem onl2 {a b:Option Nat} {w W:World} (h:w.grownBy W b):Onl a b w W:=⟨h.os,h.tape,h.output,h.size,fun i hi _ h1=>h.block i hi h1⟩
/-- What turned nothing but a and b, both above, made memory only. -/
theorem bOnl {a b:Option Nat} {w W w1:World} (h:Below w.heap.size w W) (k:Onl a b W w1) (ha:∀ i,a=some i→w.heap.size≤i) (hb:∀ i,b=some i→w.heap.size≤i):Below w.heap.size w w1 :=
  ⟨k.1.trans h.os,k.2.1.trans h.tape,k.2.2.1.trans h.output,Nat.le_trans h.size k.2.2.2.1,fun i hi=>(k.2.2.2.2 i (Nat.lt_of_lt_of_le hi h.size) (fun e=>by have:=ha i e.symm;omega) (fun e=>by have:=hb i e.symm;omega)).trans (h.block i hi)⟩
theorem grB {w W w1:World} {r:Option Nat} (h:Below w.heap.size w W) (k:W.grownBy w1 r):w.grownBy w1 r :=
  ⟨k.os.trans h.os,k.tape.trans h.tape,k.output.trans h.output,Nat.le_trans h.size k.size,fun i hi hn=>(k.block i (Nat.lt_of_lt_of_le hi h.size) hn).trans (h.block i hi)⟩
end Go.Proofs.YthfbnjfppjmgfaaGreat
set_option linter.unusedSimpArgs false
set_option linter.unusedVariables false
namespace Go.Proofs.YthfbnjfppjmgfaaGreat
open Go.RowKit
end Go.Proofs.YthfbnjfppjmgfaaGreat
set_option linter.unusedSimpArgs false
set_option linter.unusedVariables false
namespace Go.Proofs.YthfbnjfppjmgfaaGreat
open Go.RowKit
end Go.Proofs.YthfbnjfppjmgfaaGreat
set_option linter.unusedSimpArgs false
set_option linter.unusedVariables false
namespace Go.Proofs.YthfbnjfppjmgfaaGreat
open Go.RowKit
theorem left_len {c:Ch} (h:¬ leftC 1048576 c<0):c.cells.length≤1048576∧c.words.length≤1048576:=by
  unfold leftC leftN at h
  split at h <;> split at h <;> try split at h
  all_goals omega
/-- A list as it lies in a later world. -/
theorem New.segAt {w W:World} {lo n k:Nat} {x:Option Addr} {cap:Nat} {f:Nat→Nat→Value} (h:New w lo (.slice x n cap) n k f) (hb:Below w.heap.size w W):Seg W W.heap.size x n k f:=by
  obtain ⟨a,cap',e,hs⟩:=(h.below hb).seg
  simp at e
  obtain ⟨rfl,rfl⟩:=e
  exact hs
end Go.Proofs.YthfbnjfppjmgfaaGreat
set_option linter.unusedSimpArgs false
set_option linter.unusedVariables false
namespace Go.Proofs.YthfbnjfppjmgfaaGreat
def callOk (k e:Int):Bool:=(k == 1 && inB e 0 999) || (k == 2 && e == 0)
def noCall (k e:Int):Bool:=k == 0 && e == 0
def handA (h:Ha):Bool:=inB h.pos 0 25 && (if h.pos == 0 then noCall h.code h.elem else callOk h.code h.elem)
def handB (h:Ha):Bool:=inB h.cell 0 39 && (inB h.grow 0 39 && (inB h.seen 0 10 && (inB h.wait 0 80 && inB h.mine 0 80)))
def handC (h:Ha):Bool:=inB h.fin 0 40 && (inB h.come 0 40 && (inB h.nxt 0 2 && (inB h.beg 0 20000 && (inB h.reply 0 4 && inB h.out 0 999))))
def handOk (h:Ha):Bool:=handA h && (handB h && handC h)
def resting (r o:Int):Ha:=⟨0,0,0,0,0,0,0,0,0,0,0,0,r,o⟩
def begun (k e b:Int):Ha:=⟨if k == 2 then 9 else 1,k,e,0,0,0,0,0,0,0,0,b,0,0⟩
/-- What is answered to a call, and the code. -/
def called (h:Ha) (k e:Int):Ha × Int:=if handOk h then (if h.pos == 0 then (if callOk k e then (begun k e 0,0) else (h,2)) else (h,1)) else (Ha.zero,3)
end Go.Proofs.YthfbnjfppjmgfaaGreat
set_option linter.unusedSimpArgs false
set_option linter.unusedVariables false
namespace Go.Proofs.YthfbnjfppjmgfaaGreat
open Go.RowKit
/-- A hand as it lies in memory. -/
def hvals (h:Ha):Array Value:=#[.int .i64 h.pos,.int .i64 h.code,.int .i64 h.elem,.int .i64 h.cell,.int .i64 h.seen,.int .i64 h.wait,.int .i64 h.fin,.int .i64 h.come,.int .i64 h.grow,.int .i64 h.mine,.int .i64 h.nxt,.int .i64 h.beg,.int .i64 h.reply,.int .i64 h.out]
theorem hv_ne (h:Ha):(hvals h=#[])=False:=by simp [hvals]
theorem hv_size (h:Ha):(hvals h).size=14:=rfl
theorem hv_get0 (h:Ha):(hvals h)[0]?=some (.int .i64 h.pos):=rfl
theorem hv_set0 (h:Ha) (x:Int):(hvals h).setIfInBounds 0 (.int .i64 x)=hvals { h with pos:=x }:=rfl
theorem hv_get1 (h:Ha):(hvals h)[1]?=some (.int .i64 h.code):=rfl
theorem hv_set1 (h:Ha) (x:Int):(hvals h).setIfInBounds 1 (.int .i64 x)=hvals { h with code:=x }:=rfl
theorem hv_get2 (h:Ha):(hvals h)[2]?=some (.int .i64 h.elem):=rfl
theorem hv_set2 (h:Ha) (x:Int):(hvals h).setIfInBounds 2 (.int .i64 x)=hvals { h with elem:=x }:=rfl
theorem hv_get3 (h:Ha):(hvals h)[3]?=some (.int .i64 h.cell):=rfl
theorem hv_set3 (h:Ha) (x:Int):(hvals h).setIfInBounds 3 (.int .i64 x)=hvals { h with cell:=x }:=rfl
theorem hv_get4 (h:Ha):(hvals h)[4]?=some (.int .i64 h.seen):=rfl
theorem hv_set4 (h:Ha) (x:Int):(hvals h).setIfInBounds 4 (.int .i64 x)=hvals { h with seen:=x }:=rfl
theorem hv_get5 (h:Ha):(hvals h)[5]?=some (.int .i64 h.wait):=rfl
theorem hv_set5 (h:Ha) (x:Int):(hvals h).setIfInBounds 5 (.int .i64 x)=hvals { h with wait:=x }:=rfl
theorem hv_get6 (h:Ha):(hvals h)[6]?=some (.int .i64 h.fin):=rfl
theorem hv_set6 (h:Ha) (x:Int):(hvals h).setIfInBounds 6 (.int .i64 x)=hvals { h with fin:=x }:=rfl
theorem hv_get7 (h:Ha):(hvals h)[7]?=some (.int .i64 h.come):=rfl
theorem hv_set7 (h:Ha) (x:Int):(hvals h).setIfInBounds 7 (.int .i64 x)=hvals { h with come:=x }:=rfl
theorem hv_get8 (h:Ha):(hvals h)[8]?=some (.int .i64 h.grow):=rfl
theorem hv_set8 (h:Ha) (x:Int):(hvals h).setIfInBounds 8 (.int .i64 x)=hvals { h with grow:=x }:=rfl
theorem hv_get9 (h:Ha):(hvals h)[9]?=some (.int .i64 h.mine):=rfl
theorem hv_set9 (h:Ha) (x:Int):(hvals h).setIfInBounds 9 (.int .i64 x)=hvals { h with mine:=x }:=rfl
theorem hv_get10 (h:Ha):(hvals h)[10]?=some (.int .i64 h.nxt):=rfl
theorem hv_set10 (h:Ha) (x:Int):(hvals h).setIfInBounds 10 (.int .i64 x)=hvals { h with nxt:=x }:=rfl
theorem hv_get11 (h:Ha):(hvals h)[11]?=some (.int .i64 h.beg):=rfl
theorem hv_set11 (h:Ha) (x:Int):(hvals h).setIfInBounds 11 (.int .i64 x)=hvals { h with beg:=x }:=rfl
theorem hv_get12 (h:Ha):(hvals h)[12]?=some (.int .i64 h.reply):=rfl
theorem hv_set12 (h:Ha) (x:Int):(hvals h).setIfInBounds 12 (.int .i64 x)=hvals { h with reply:=x }:=rfl
theorem hv_get13 (h:Ha):(hvals h)[13]?=some (.int .i64 h.out):=rfl
theorem hv_set13 (h:Ha) (x:Int):(hvals h).setIfInBounds 13 (.int .i64 x)=hvals { h with out:=x }:=rfl
/-- A channel as it lies in memory, with its lists. -/
def cvals (c:Ch) (v1 v2:Value):Array Value:=#[.int .i64 c.cap,.int .i64 c.sent,.int .i64 c.got,.int .i64 c.fin,v1,v2]
theorem cv_ne (c:Ch) (v1 v2:Value):(cvals c v1 v2=#[])=False:=by simp [cvals]
theorem cv_size (c:Ch) (v1 v2:Value):(cvals c v1 v2).size=6:=rfl
theorem cv_get0 (c:Ch) (v1 v2:Value):(cvals c v1 v2)[0]?=some (.int .i64 c.cap):=rfl
theorem cv_set0 (c:Ch) (v1 v2:Value) (x:Int):(cvals c v1 v2).setIfInBounds 0 (.int .i64 x)=cvals { c with cap:=x } v1 v2:=rfl
theorem cv_get1 (c:Ch) (v1 v2:Value):(cvals c v1 v2)[1]?=some (.int .i64 c.sent):=rfl
theorem cv_set1 (c:Ch) (v1 v2:Value) (x:Int):(cvals c v1 v2).setIfInBounds 1 (.int .i64 x)=cvals { c with sent:=x } v1 v2:=rfl
theorem cv_get2 (c:Ch) (v1 v2:Value):(cvals c v1 v2)[2]?=some (.int .i64 c.got):=rfl
theorem cv_set2 (c:Ch) (v1 v2:Value) (x:Int):(cvals c v1 v2).setIfInBounds 2 (.int .i64 x)=cvals { c with got:=x } v1 v2:=rfl
theorem cv_get3 (c:Ch) (v1 v2:Value):(cvals c v1 v2)[3]?=some (.int .i64 c.fin):=rfl
theorem cv_set3 (c:Ch) (v1 v2:Value) (x:Int):(cvals c v1 v2).setIfInBounds 3 (.int .i64 x)=cvals { c with fin:=x } v1 v2:=rfl
theorem cv_get4 (c:Ch) (v1 v2:Value):(cvals c v1 v2)[4]?=some v1:=rfl
theorem cv_get5 (c:Ch) (v1 v2:Value):(cvals c v1 v2)[5]?=some v2:=rfl
theorem cv_set4 (c:Ch) (v1 v2 x:Value):(cvals c v1 v2).setIfInBounds 4 x=cvals c x v2:=rfl
theorem cv_set5 (c:Ch) (v1 v2 x:Value):(cvals c v1 v2).setIfInBounds 5 x=cvals c v1 x:=rfl
def setBoxO (vs:Array Value):Obj→Obj
  | .cells _ t fr=>.cells vs t fr
  | o=>o
def setCellO (i:Nat) (v:Value):Obj→Obj
  | .cells c t fr=>.cells (c.setIfInBounds i v) t fr
  | o=>o
/-- Block b is written whole. -/
def setBox (w:World) (b:Nat) (vs:Array Value):World:={ w with heap:=w.heap.modify b (setBoxO vs) }
/-- What lies in block b. -/
def hp (w:World) (b:Nat):Option Obj:=w.heap[b]?
def okO (n:Nat):Option Obj→Bool
  | some (.cells c _ fr)=>c.size == n && (fr.1 == 0 && fr.2 == 0)
  | _=>false
def cellsO:Option Obj→Array Value
  | some (.cells c _ _)=>c
  | _=>#[]
theorem setBoxO_cells (vs c:Array Value) (t:TypeId):setBoxO vs (.cells c t)=.cells vs t:=rfl
theorem setCellO_cells (i:Nat) (v:Value) (c:Array Value) (t:TypeId):setCellO i v (.cells c t)=.cells (c.setIfInBounds i v) t:=rfl
theorem okO_cells (n:Nat) (c:Array Value) (t:TypeId):okO n (some (.cells c t))=(c.size == n):=by simp [okO]
theorem cellsO_cells (c:Array Value) (t:TypeId):cellsO (some (.cells c t))=c:=rfl
theorem okO_elim {n:Nat} {o:Option Obj} (h:okO n o=true):∃ c t,o=some (.cells c t)∧c.size=n:=by
  unfold okO at h
  split at h
  · rename_i c t fr
    obtain ⟨f1,f2⟩:=fr
    simp at h
    obtain ⟨h1,rfl,rfl⟩:=h
    exact ⟨c,t,rfl,h1⟩
  · cases h
theorem lt_2 (n:Nat):n<n+1+1:=by omega
theorem lt_3 (n:Nat):n<n+1+1+1:=by omega
theorem lt_4 (n:Nat):n<n+1+1+1+1:=by omega
theorem lt_5 (n:Nat):n<n+1+1+1+1+1:=by omega
variable {w W:World} {b b' n i:Nat} {vs us:Array Value} {v:Value}
theorem bx_size:(setBox w b vs).heap.size=w.heap.size:=by simp [setBox]
theorem bx_heap_at:hp (setBox w b vs) b=(hp w b).map (setBoxO vs):=by simp [hp,setBox,Array.getElem?_modify]
theorem bx_heap_ne (h:b'≠b):(setBox w b vs).heap[b']?=w.heap[b']?:=by simp [setBox,Array.getElem?_modify,Ne.symm h]
theorem bx_heap_lt (h:b'<b):hp (setBox w b vs) b'=hp w b':=bx_heap_ne (by omega)
theorem bx_heap_gt (h:b<b'):hp (setBox w b vs) b'=hp w b':=bx_heap_ne (by omega)
theorem bx_cell_at (h:okO vs.size (hp w b)=true):(setBox w b vs).cell? ⟨b,i,none⟩=vs[i]?:=by
  obtain ⟨c,t,e,_⟩:=okO_elim h
  unfold hp at e
  simp [World.cell?,setBox,Array.getElem?_modify,e,setBoxO]
theorem bx_cell_ne (h:b'≠b):(setBox w b vs).cell? ⟨b',i,none⟩=w.cell? ⟨b',i,none⟩:=World.cell?_of_block (bx_heap_ne h)
theorem bx_cell_lt (h:b'<b):(setBox w b vs).cell? ⟨b',i,none⟩=w.cell? ⟨b',i,none⟩:=bx_cell_ne (by omega)
theorem bx_cell_gt (h:b<b'):(setBox w b vs).cell? ⟨b',i,none⟩=w.cell? ⟨b',i,none⟩:=bx_cell_ne (by omega)
theorem bx_frozen:(setBox w b vs).frozen? ⟨b',i,none⟩=w.frozen? ⟨b',i,none⟩:=by
  simp only [World.frozen?,setBox,Array.getElem?_modify]
  by_cases e:b=b'
  · subst e
    simp only [if_true]
    cases w.heap[b]? with
    | none=>rfl
    | some o=>cases o <;> rfl
  · simp [e]
theorem bx_alloc_at {c:Array Value} {t:TypeId} (hn:n=w.heap.size):setBox (w.alloc (.cells c t)) n vs=w.alloc (.cells vs t):=by
  subst hn
  unfold setBox World.alloc
  congr 1
  apply Array.ext_getElem?
  intro k
  simp only [Array.getElem?_modify,Array.getElem?_push]
  by_cases hk:k=w.heap.size
  · subst hk;simp [setBoxO]
  · simp [hk,Ne.symm hk]
theorem bx_alloc_past {o:Obj} (hn:n<w.heap.size):setBox (w.alloc o) n vs=(setBox w n vs).alloc o:=by
  unfold setBox World.alloc
  congr 1
  apply Array.ext_getElem?
  intro k
  simp only [Array.getElem?_modify,Array.getElem?_push,Array.size_modify]
  by_cases hk:k=w.heap.size
  · subst hk;simp [Nat.ne_of_lt hn]
  · simp [hk]
theorem bx_twice:setBox (setBox w b vs) b us=setBox w b us:=by
  unfold setBox
  congr 1
  apply Array.ext_getElem?
  intro k
  simp only [Array.getElem?_modify]
  by_cases e:b=k
  · subst e
    simp only [if_true]
    cases w.heap[b]? with
    | none=>rfl
    | some o=>cases o <;> rfl
  · simp [e]
theorem bx_setCell:(setBox w b vs).setCell ⟨b,i,none⟩ v=setBox w b (vs.setIfInBounds i v):=by
  unfold setBox World.setCell
  congr 1
  apply Array.ext_getElem?
  intro k
  simp only [Array.getElem?_modify]
  by_cases e:b=k
  · subst e
    simp only [if_true]
    cases w.heap[b]? with
    | none=>rfl
    | some o=>cases o <;> rfl
  · simp [e]
theorem bx_drew:setBox w.drew b vs=(setBox w b vs).drew:=rfl
theorem hp_drew:hp w.drew b=hp w b:=rfl
theorem hp_alloc_at {o:Obj} (hn:n=w.heap.size):hp (w.alloc o) n=some o:=by subst hn;exact heap_alloc_new w o
theorem hp_alloc_past {o:Obj} (hn:n<w.heap.size):hp (w.alloc o) n=hp w n:=Below.heap_alloc w o n hn
theorem hp_set_at:hp (w.setCell ⟨b,i,none⟩ v) b=(hp w b).map (setCellO i v):=by
  simp only [hp,World.setCell,Array.getElem?_modify]
  cases w.heap[b]? with
  | none=>simp
  | some o=>cases o <;> simp [setCellO]
theorem hp_set_lt (h:b'<b):hp (w.setCell ⟨b,i,none⟩ v) b'=hp w b':=Below.heap_setCell w _ v b' (by simp;omega)
theorem hp_set_gt (h:b<b'):hp (w.setCell ⟨b,i,none⟩ v) b'=hp w b':=Below.heap_setCell w _ v b' (by simp;omega)
theorem grHp {r:Option Nat} (h:w.grownBy W r) (hb:b<w.heap.size) (hn:some b≠r):hp W b=hp w b:=h.block b hb hn
theorem onlHp {r r':Option Nat} (h:Onl r r' w W) (hb:i<w.heap.size) (h1:some i≠r) (h2:some i≠r'):hp W i=hp w i:=h.2.2.2.2 i hb h1 h2
theorem bO {w:World} {b:Nat} {cs:Array Value} {t:TypeId} (h:hp w b=some (.cells cs t)):(∀ o,w.cell? ⟨b,o,none⟩=cs[o]?)∧(∀ o,w.frozen? ⟨b,o,none⟩=false)∧b<w.heap.size :=
  ⟨fun o=>cell_of_row w b o cs t _ h,fun o=>by have h2:w.heap[b]?=some (.cells cs t):=h;simp [World.frozen?,h2],(Array.getElem?_eq_some_iff.1 h).1⟩
theorem hpB (h:Below n w W) (hb:b<n):hp W b=hp w b:=h.block b hb
theorem hQ {n:Nat} {w W:World} (h:Below n w W) {b:Nat} (hb:b<n:=by ((try simp) <;> omega)):hp W b=hp w b:=hpB h hb
theorem q4 {n:Nat} {w W:World} (h:Below n w W) {b:Nat} (hb:b+1+1+1<n:=by ((try simp) <;> omega)):hp W (b+1+1+1)=hp w (b+1+1+1)∧hp W (b+1+1)=hp w (b+1+1)∧hp W (b+1)=hp w (b+1)∧hp W b=hp w b:=⟨hpB h (by omega),hpB h (by omega),hpB h (by omega),hpB h (by omega)⟩
theorem bBx {lo:Nat} (h:Below lo w W) (hb:lo≤b):Below lo w (setBox W b vs) :=
  ⟨h.os,h.tape,h.output,by rw [bx_size];exact h.size,fun k hk=>(bx_heap_ne (by omega)).trans (h.block k hk)⟩
theorem gBx {g:Nat} (h:Gr g w W) (hb:b=g∨w.heap.size≤b):Gr g w (setBox W b vs) :=
  ⟨h.os,h.tape,h.output,by rw [bx_size];exact h.size,fun k hk hn=>(bx_heap_ne (by rcases hb with hb|hb;exact fun e=>hn (by rw [e,hb]);omega)).trans (h.block k hk hn)⟩
theorem own_box {lo:Nat} {e:TypeId} {k m:Nat} {x:Value} {xs:List Value} (h:w.ownsRow lo e k x m xs) (hp:x.ownBlock≠some b):(setBox w b vs).ownsRow lo e k x m xs :=
  h.kept (row:=some b) ⟨rfl,rfl,rfl,by rw [bx_size];exact Nat.le_refl _,fun i _ hn=>bx_heap_ne (fun e=>hn (by rw [e]))⟩ (.inr hp)
theorem rowA {r:Option Nat} {o:Obj} (h:w.grownBy W r):w.grownBy (W.alloc o) r:=⟨h.os,h.tape,h.output,Nat.le_trans h.size (by simp),fun k hk hn=>(Below.heap_alloc W o k (Nat.lt_of_lt_of_le hk h.size)).trans (h.block k hk hn)⟩
theorem rowD {r:Option Nat} (h:w.grownBy W r):w.grownBy W.drew r:=⟨h.os,h.tape,h.output,h.size,h.block⟩
theorem rowS {r:Option Nat} {p:Addr} {u:Value} (h:w.grownBy W r) (hp:w.heap.size≤p.block):w.grownBy (W.setCell p u) r :=
  ⟨h.os,h.tape,h.output,by simpa [World.setCell] using h.size,fun k hk hn=>(Below.heap_setCell W p u k (by omega)).trans (h.block k hk hn)⟩
theorem rowX {r:Option Nat} (h:w.grownBy W r) (hb:w.heap.size≤b):w.grownBy (setBox W b vs) r :=
  ⟨h.os,h.tape,h.output,by rw [bx_size];exact h.size,fun k hk hn=>(bx_heap_ne (by omega)).trans (h.block k hk hn)⟩
theorem oA {r r':Option Nat} {o:Obj} (h:Onl r r' w W):Onl r r' w (W.alloc o) :=
  ⟨h.1,h.2.1,h.2.2.1,Nat.le_trans h.2.2.2.1 (by simp),fun k hk h1 h2=>(Below.heap_alloc W o k (Nat.lt_of_lt_of_le hk h.2.2.2.1)).trans (h.2.2.2.2 k hk h1 h2)⟩
theorem oD {r r':Option Nat} (h:Onl r r' w W):Onl r r' w W.drew:=h
theorem oS {r r':Option Nat} {p:Addr} {u:Value} (h:Onl r r' w W) (hp:w.heap.size≤p.block):Onl r r' w (W.setCell p u) :=
  ⟨h.1,h.2.1,h.2.2.1,by simpa [World.setCell] using h.2.2.2.1,fun k hk h1 h2=>(Below.heap_setCell W p u k (by omega)).trans (h.2.2.2.2 k hk h1 h2)⟩
theorem oX {r r':Option Nat} (h:Onl r r' w W) (hb:w.heap.size≤b):Onl r r' w (setBox W b vs) :=
  ⟨h.1,h.2.1,h.2.2.1,by rw [bx_size];exact h.2.2.2.1,fun k hk h1 h2=>(bx_heap_ne (by omega)).trans (h.2.2.2.2 k hk h1 h2)⟩
/- Loading and storing whole. -/
variable {P:Program} {T:TypeId}
theorem load_box (hA:∀ w,(isAgg T).run P w=.ok true w) (hS:∀ w,(sizeOf T).run P w=.ok n w) (h:okO n (hp w b)=true) :
    (loadVar T ⟨b,0,none⟩).run P w=.ok (.agg (cellsO (hp w b))) w:=by
  unfold hp at *
  obtain ⟨c,t,e,hc⟩:=okO_elim h
  have h1:(loadCells ⟨b,0,none⟩ c.toList.length).run P w=.ok c.toList.toArray w:=run_loadCells_list w ⟨b,0,none⟩ c.toList (fun j v hj=>by
    have e2:(⟨b,0,none⟩:Addr).add j=⟨b,j,none⟩:=by by_cases h0:j=0 <;> simp [Addr.add,h0]
    rw [e2]
    simp only [World.cell?,e]
    simpa using hj)
  simp only [Array.length_toList,hc] at h1
  rw [e,cellsO_cells]
  simp only [loadVar,Sem.run_bind,hA,hS,Result.andThen_ok,if_true,h1,Sem.run_pure]
theorem setCells_heap (b:Nat):∀ (l:List Value) (o:Nat) (w:World),w.setCells b o l={ w with heap:=w.heap.modify b (fun x=>match x with|.cells c t fr=>.cells ((l.zipIdx o).foldl (fun c p=>c.setIfInBounds p.2 p.1) c) t fr|x=>x) }
  | [],o,w=>by
    unfold World.setCells
    have e:w.heap.modify b (fun x=>match x with|.cells c t fr=>.cells ((([]:List Value).zipIdx o).foldl (fun c p=>c.setIfInBounds p.2 p.1) c) t fr|x=>x)=w.heap:=by
      apply Array.ext_getElem?
      intro k
      simp only [Array.getElem?_modify]
      by_cases e:b=k
      · subst e
        simp only [if_true]
        cases w.heap[b]? with
        | none=>rfl
        | some x=>cases x <;> rfl
      · simp [e]
    rw [e]
  | v :: l,o,w=>by
    unfold World.setCells
    rw [setCells_heap b l (o+1)]
    simp only [World.setCell]
    congr 1
    apply Array.ext_getElem?
    intro k
    simp only [Array.getElem?_modify]
    by_cases e:b=k
    · subst e
      simp only [if_true]
      cases w.heap[b]? with
      | none=>rfl
      | some x=>cases x <;> simp [List.zipIdx_cons]
    · simp [e]
theorem fold_get:∀ (l:List Value) (o:Nat) (c:Array Value) (k:Nat),o+l.length≤c.size→((l.zipIdx o).foldl (fun c p=>c.setIfInBounds p.2 p.1) c)[k]?=if o≤k∧k<o+l.length then l[k - o]? else c[k]?
  | [],o,c,k,_=>by
    have:¬ (o≤k∧k<o+([]:List Value).length):=by simp
    rw [if_neg this];rfl
  | v :: l,o,c,k,h=>by
    simp only [List.zipIdx_cons,List.foldl_cons,List.length_cons] at *
    rw [fold_get l (o+1) _ k (by rw [Array.size_setIfInBounds];omega)]
    by_cases e:k=o
    · subst e
      rw [if_neg (by omega),if_pos (by omega),Array.getElem?_setIfInBounds,if_pos rfl,if_pos (by omega)];simp
    · by_cases e2:o+1≤k∧k<o+1+l.length
      · rw [if_pos e2,if_pos (by omega)]
        obtain ⟨m,rfl⟩:∃ m,k=o+1+m:=⟨k - (o+1),by omega⟩
        rw [show o+1+m - (o+1)=m by omega,show o+1+m - o=m+1 by omega];rfl
      · rw [if_neg e2,if_neg (by omega),Array.getElem?_setIfInBounds,if_neg (fun h=>e h.symm)]
theorem fold_all (vs c:Array Value) (h:c.size=vs.size):((vs.toList.zipIdx 0).foldl (fun c p=>c.setIfInBounds p.2 p.1) c)=vs:=by
  apply Array.ext_getElem?
  intro k
  rw [fold_get _ _ _ _ (by simp;omega)]
  by_cases e:k<vs.size
  · rw [if_pos (by simp;omega)];simp
  · rw [if_neg (by simp;omega),Array.getElem?_eq_none (by omega),Array.getElem?_eq_none (by omega)]
theorem store_cells (h:okO n (hp w b)=true) (hv:vs.size=n) (h1:∀ v ∈ vs.toList,v.oneCell'=true) :
    (storeCells ⟨b,0,none⟩ vs.toList).run P w=.ok () (setBox w b vs):=by
  unfold hp at h
  obtain ⟨c,t,e,hc⟩:=okO_elim h
  have h2:=run_storeCells_cells (P:=P) b 0 vs.toList 0 w (fun j hj=>by
      have:j<c.size:=by rw [hc,← hv];simpa using hj
      simp [World.cell?,e,this]) (fun j hj=>by simp [World.frozen?,e]) h1
  have h3:w.setCells b (0+0) vs.toList=setBox w b vs:=by
    rw [setCells_heap]
    unfold setBox
    congr 1
    apply Array.ext_getElem?
    intro k
    simp only [Array.getElem?_modify]
    by_cases ek:b=k
    · subst ek
      simp only [if_true,e,Option.map_some,setBoxO]
      rw [fold_all vs c (by omega)]
    · simp [ek]
  rw [h3] at h2
  exact h2
theorem store_box (hS:∀ w,(sizeOf T).run P w=.ok n w) (h:okO n (hp w b)=true) (hv:vs.size=n) (h1:∀ v ∈ vs.toList,v.oneCell'=true) :
    (storeVar T ⟨b,0,none⟩ (.agg vs)).run P w=.ok () (setBox w b vs):=by
  have h2:=store_cells (P:=P) h hv h1
  simp only [storeVar,Sem.run_bind,hS,Result.andThen_ok,Value.cells,hv,ne_eq,not_true_eq_false,if_false]
  simpa using h2
/- Results that lie in memory. -/
variable {fn:Func} {p q u:Tmp} {S:TypeId} {tmps:Array Value} {a a':Addr} {x y:Value}
theorem res_c (h:fn.results=#[.cell p T]) (hp:tmps.getD p undef=.pointer (some a)) (hl:(loadVar T a).run P w=.ok x w):(results fn tmps).run P w=.ok x w:=by
  simp only [results,h]
  simp [Sem.run_bind,Result.andThen,asAddr] at *
  simp [hp,hl]
theorem res_ct (h:fn.results=#[.cell p T,.tmp u]) (hp:tmps.getD p undef=.pointer (some a)) (hl:(loadVar T a).run P w=.ok x w):(results fn tmps).run P w=.ok (.tuple #[x,tmps.getD u undef]) w:=by
  simp only [results,h]
  simp [Sem.run_bind,Result.andThen,asAddr] at *
  simp [hp,hl]
theorem res_cc (h:fn.results=#[.cell p T,.cell q S]) (hp:tmps.getD p undef=.pointer (some a)) (hl:(loadVar T a).run P w=.ok x w) (hp':tmps.getD q undef=.pointer (some a')) (hl':(loadVar S a').run P w=.ok y w):(results fn tmps).run P w=.ok (.tuple #[x,y]) w:=by
  simp only [results,h]
  simp [Sem.run_bind,Result.andThen,asAddr] at *
  simp [hp,hl,hp',hl']
theorem res_cct (h:fn.results=#[.cell p T,.cell q S,.tmp u]) (hp:tmps.getD p undef=.pointer (some a)) (hl:(loadVar T a).run P w=.ok x w) (hp':tmps.getD q undef=.pointer (some a')) (hl':(loadVar S a').run P w=.ok y w):(results fn tmps).run P w=.ok (.tuple #[x,y,tmps.getD u undef]) w:=by
  simp only [results,h]
  simp [Sem.run_bind,Result.andThen,asAddr] at *
  simp [hp,hl,hp',hl']
end Go.Proofs.YthfbnjfppjmgfaaGreat
set_option linter.unusedSimpArgs false
set_option linter.unusedVariables false
namespace Go.Proofs.YthfbnjfppjmgfaaGreat
open Go.RowKit
theorem infoHand:(Tryz.prog.info? 38).map (fun i=>(i.zero,i.size,i.bytes))=some (some (.agg (hvals Ha.zero)),14,112):=by kernel_rfl
theorem infoChan:(Tryz.prog.info? 34).map (fun i=>(i.zero,i.size,i.bytes))=some (some (.agg (cvals Ch.zero (.slice none 0 0) (.slice none 0 0))),6,80):=by kernel_rfl
theorem zeroHand (w:World):(zeroValue 38).run Tryz.prog w=.ok (.agg (hvals Ha.zero)) w:=by
  obtain ⟨i,hi,hz,_⟩:=info_parts infoHand
  have e:Tryz.prog.info? 38=some Tryz.t38:=by kernel_rfl
  obtain rfl:Tryz.t38=i:=by rw [e] at hi;exact Option.some.inj hi
  simp [zeroValue,go_sem,hz]
theorem zeroChan (w:World):(zeroValue 34).run Tryz.prog w=.ok (.agg (cvals Ch.zero (.slice none 0 0) (.slice none 0 0))) w:=by
  obtain ⟨i,hi,hz,_⟩:=info_parts infoChan
  have e:Tryz.prog.info? 34=some Tryz.t34:=by kernel_rfl
  obtain rfl:Tryz.t34=i:=by rw [e] at hi;exact Option.some.inj hi
  simp [zeroValue,go_sem,hz]
theorem aggHand (w:World):(isAgg 38).run Tryz.prog w=.ok true w:=by simp [isAgg,go_sem]
theorem aggChan (w:World):(isAgg 34).run Tryz.prog w=.ok true w:=by simp [isAgg,go_sem]
theorem szHand (w:World):(sizeOf 38).run Tryz.prog w=.ok 14 w:=by simp [go_sem]
theorem szChanT (w:World):(sizeOf 34).run Tryz.prog w=.ok 6 w:=by simp [go_sem]
variable {w:World} {b:Nat}
theorem loadHandV (h:okO 14 (hp w b)=true):(loadVar 38 ⟨b,0,none⟩).run Tryz.prog w=.ok (.agg (cellsO (hp w b))) w:=load_box aggHand szHand h
theorem loadChanV (h:okO 6 (hp w b)=true):(loadVar 34 ⟨b,0,none⟩).run Tryz.prog w=.ok (.agg (cellsO (hp w b))) w:=load_box aggChan szChanT h
theorem loadHand (h:okO 14 (hp w b)=true):(Instr.loadAt 38 (.pointer (some ⟨b,0,none⟩))).run Tryz.prog w=.ok (.agg (cellsO (hp w b))) w:=by
  simp only [Instr.loadAt,Instr.sureAddr,Sem.run_bind,Sem.run_pure,Result.andThen_ok,loadHandV h]
theorem loadChan (h:okO 6 (hp w b)=true):(Instr.loadAt 34 (.pointer (some ⟨b,0,none⟩))).run Tryz.prog w=.ok (.agg (cellsO (hp w b))) w:=by
  simp only [Instr.loadAt,Instr.sureAddr,Sem.run_bind,Sem.run_pure,Result.andThen_ok,loadChanV h]
theorem storeHand (x:Ha) (h:okO 14 (hp w b)=true):(Instr.storeAt 38 (.pointer (some ⟨b,0,none⟩)) (.agg (hvals x))).run Tryz.prog w=.ok () (setBox w b (hvals x)):=by
  simp only [Instr.storeAt,Instr.sureAddr,Sem.run_bind,Sem.run_pure,Result.andThen_ok]
  exact store_box szHand h rfl (by simp [hvals,Value.oneCell'])
theorem storeChan (c:Ch) (x y:Option Addr) (n p m q:Nat) (h:okO 6 (hp w b)=true):(Instr.storeAt 34 (.pointer (some ⟨b,0,none⟩)) (.agg (cvals c (.slice x n p) (.slice y m q)))).run Tryz.prog w=.ok () (setBox w b (cvals c (.slice x n p) (.slice y m q))):=by
  simp only [Instr.storeAt,Instr.sureAddr,Sem.run_bind,Sem.run_pure,Result.andThen_ok]
  exact store_box szChanT h rfl (by simp [cvals,Value.oneCell'])
theorem storeHandC (x:Ha) (h:okO 14 (hp w b)=true):(storeCells ⟨b,0,none⟩ (hvals x).toList).run Tryz.prog w=.ok () (setBox w b (hvals x)):=store_cells h rfl (by simp [hvals,Value.oneCell'])
theorem storeChanC (c:Ch) (x y:Option Addr) (n p m q:Nat) (h:okO 6 (hp w b)=true):(storeCells ⟨b,0,none⟩ (cvals c (.slice x n p) (.slice y m q)).toList).run Tryz.prog w=.ok () (setBox w b (cvals c (.slice x n p) (.slice y m q))):=store_cells h rfl (by simp [cvals,Value.oneCell'])
/-- Loading whole, as one word. -/
def LHand (x:Value):Sem Value:=Instr.loadAt 38 x
def VHand (x:Addr):Sem Value:=loadVar 38 x
theorem toLHand (x:Value):Instr.loadAt 38 x=LHand x:=by unfold LHand;simp
theorem toVHand (x:Addr):loadVar 38 x=VHand x:=by unfold VHand;simp
theorem runLHand (h:okO 14 (hp w b)=true):(LHand (.pointer (some ⟨b,0,none⟩))).run Tryz.prog w=.ok (.agg (cellsO (hp w b))) w:=loadHand h
theorem runVHand (h:okO 14 (hp w b)=true):(VHand ⟨b,0,none⟩).run Tryz.prog w=.ok (.agg (cellsO (hp w b))) w:=loadHandV h
/-- Loading whole, as one word. -/
def LChan (x:Value):Sem Value:=Instr.loadAt 34 x
def VChan (x:Addr):Sem Value:=loadVar 34 x
theorem toLChan (x:Value):Instr.loadAt 34 x=LChan x:=by unfold LChan;simp
theorem toVChan (x:Addr):loadVar 34 x=VChan x:=by unfold VChan;simp
theorem runLChan (h:okO 6 (hp w b)=true):(LChan (.pointer (some ⟨b,0,none⟩))).run Tryz.prog w=.ok (.agg (cellsO (hp w b))) w:=loadChan h
theorem runVChan (h:okO 6 (hp w b)=true):(VChan ⟨b,0,none⟩).run Tryz.prog w=.ok (.agg (cellsO (hp w b))) w:=loadChanV h
theorem ldHand (x:Ha) (h:hp w b=some (.cells (hvals x) 38)):(loadVar 38 ⟨b,0,none⟩).run Tryz.prog w=.ok (.agg (hvals x)) w:=by
  have:=loadHandV (w:=w) (b:=b) (by rw [h];simp [okO,hv_size])
  rw [h] at this
  exact this
theorem ldChan (c:Ch) (x y:Value) (h:hp w b=some (.cells (cvals c x y) 34)):(loadVar 34 ⟨b,0,none⟩).run Tryz.prog w=.ok (.agg (cvals c x y)) w:=by
  have:=loadChanV (w:=w) (b:=b) (by rw [h];simp [okO,cv_size])
  rw [h] at this
  exact this
attribute [go_sem] runLHand runVHand bx_size bx_heap_at bx_heap_lt bx_heap_gt bx_cell_at bx_cell_lt bx_cell_gt bx_frozen bx_alloc_at bx_alloc_past bx_twice bx_setCell bx_drew hp_drew hp_alloc_at hp_alloc_past hp_set_at hp_set_lt hp_set_gt okO_cells cellsO_cells setBoxO_cells setCellO_cells Option.map_some lt_2 lt_3 lt_4 lt_5 hv_ne hv_size hv_get0 hv_set0 hv_get1 hv_set1 hv_get2 hv_set2 hv_get3 hv_set3 hv_get4 hv_set4 hv_get5 hv_set5 hv_get6 hv_set6 hv_get7 hv_set7 hv_get8 hv_set8 hv_get9 hv_set9 hv_get10 hv_set10 hv_get11 hv_set11 hv_get12 hv_set12 hv_get13 hv_set13
attribute [go_sem] runLChan runVChan cv_ne cv_size cv_get0 cv_set0 cv_get1 cv_set1 cv_get2 cv_set2 cv_get3 cv_set3 cv_get4 cv_set4 cv_get5 cv_set5
end Go.Proofs.YthfbnjfppjmgfaaGreat
set_option linter.unusedSimpArgs false
set_option linter.unusedVariables false
namespace Go.Proofs.YthfbnjfppjmgfaaGreat
open Go.RowKit
theorem aggHandL (w:World):(isAgg 29).run Tryz.prog w=.ok true w:=by simp [isAgg,go_sem]
theorem szHandL (w:World):(sizeOf 29).run Tryz.prog w=.ok 14 w:=by simp [go_sem]
theorem loadHandVL {w:World} {b:Nat} (h:okO 14 (hp w b)=true):(loadVar 29 ⟨b,0,none⟩).run Tryz.prog w=.ok (.agg (cellsO (hp w b))) w:=load_box aggHandL szHandL h
theorem loadHandL {w:World} {b:Nat} (h:okO 14 (hp w b)=true):(Instr.loadAt 29 (.pointer (some ⟨b,0,none⟩))).run Tryz.prog w=.ok (.agg (cellsO (hp w b))) w:=by
  simp only [Instr.loadAt,Instr.sureAddr,Sem.run_bind,Sem.run_pure,Result.andThen_ok,loadHandVL h]
/-- Loading whole, as one word: a hand of the laws. -/
def LHandL (x:Value):Sem Value:=Instr.loadAt 29 x
theorem toLHandL (x:Value):Instr.loadAt 29 x=LHandL x:=by unfold LHandL;simp
theorem runLHandL {w:World} {b:Nat} (h:okO 14 (hp w b)=true):(LHandL (.pointer (some ⟨b,0,none⟩))).run Tryz.prog w=.ok (.agg (cellsO (hp w b))) w:=loadHandL h
theorem aggChanL (w:World):(isAgg 25).run Tryz.prog w=.ok true w:=by simp [isAgg,go_sem]
theorem szChanL (w:World):(sizeOf 25).run Tryz.prog w=.ok 6 w:=by simp [go_sem]
theorem loadChanVL {w:World} {b:Nat} (h:okO 6 (hp w b)=true):(loadVar 25 ⟨b,0,none⟩).run Tryz.prog w=.ok (.agg (cellsO (hp w b))) w:=load_box aggChanL szChanL h
theorem loadChanL {w:World} {b:Nat} (h:okO 6 (hp w b)=true):(Instr.loadAt 25 (.pointer (some ⟨b,0,none⟩))).run Tryz.prog w=.ok (.agg (cellsO (hp w b))) w:=by
  simp only [Instr.loadAt,Instr.sureAddr,Sem.run_bind,Sem.run_pure,Result.andThen_ok,loadChanVL h]
/-- Loading whole, as one word: a channel of the laws. -/
def LChanL (x:Value):Sem Value:=Instr.loadAt 25 x
theorem toLChanL (x:Value):Instr.loadAt 25 x=LChanL x:=by unfold LChanL;simp
theorem runLChanL {w:World} {b:Nat} (h:okO 6 (hp w b)=true):(LChanL (.pointer (some ⟨b,0,none⟩))).run Tryz.prog w=.ok (.agg (cellsO (hp w b))) w:=loadChanL h
attribute [go_sem] runLHandL runLChanL
attribute [local go_sem ↓] zeroHand toLHand toVHand storeHand storeHandC
set_option maxHeartbeats 400000 in
theorem toCall_whole (k e:Int) (w:World):Calls Tryz.prog 15 #[.agg #[.int .i64 k,.int .i64 e]] w fun r w'=>r=.returned (.agg #[.int .i64 k,.int .i64 e])∧Below w.heap.size w w':=by
  go_enter Tryz.func15,Tryz.ntmps15
  go_wp2
  exact bodyPost_ret (v:=.agg #[.int .i64 k,.int .i64 e]) (by simp [results,Tryz.results15,go_sem, *]) rfl ⟨rfl,by exact zB⟩
set_option maxRecDepth 100000 in
set_option maxHeartbeats 1000000 in
theorem toHand_any (h:Ha) (w:World):Calls Tryz.prog 7 #[.agg (hvals h)] w fun r w'=>r=.returned (.agg (hvals h))∧Below w.heap.size w w':=by
  go_enter Tryz.func7,Tryz.ntmps7
  go_wp2_with fail;refine bHit w (by exact zB) fun bb=>?_;refine (toCall_whole h.code h.elem _).mono ?_;rintro _ w1 ⟨rfl,hbw1⟩;have hCw1:Below w.heap.size w w1:=bT bb hbw1;have hsw1:=hbw1.size;(try simp at hsw1);have zz:=And.intro (hQ hbw1 (b:=w.heap.size+1+1)) <| And.intro (hQ hbw1 (b:=w.heap.size+1)) <| hQ hbw1 (b:=w.heap.size);(try simp [go_sem] at zz);(try clear z_wpp x_wpp f_wpp l_wpp);(try clear z_wp x_wp f_wp l_wp);(try clear z_w x_w f_w l_w);obtain ⟨z_wpp,z_wp,z_w⟩:=zz;obtain ⟨x_wpp,f_wpp,l_wpp⟩:=bO z_wpp;obtain ⟨x_wp,f_wp,l_wp⟩:=bO z_wp;obtain ⟨x_w,f_w,l_w⟩:=bO z_w;clear hbw1 bb
  go_wp2
  exact bodyPost_ret (res_c Tryz.results7 rfl (ldHand h (by simp [go_sem, *] <;> rfl))) rfl ⟨rfl,by exact zB⟩
end Go.Proofs.YthfbnjfppjmgfaaGreat
