/-
  Small lemmas on worlds, lists in memory and cells; no condition.
  Lists in memory that a call has made itself, and lists that are appended to them; no condition.
  Lists that are made with a number of zeros; at most 1048576 elements.
-/
import Derived.Test.YtmnpgkcdfielbaaProg
import Derived.WalkKit
import Derived.WalkSpells
import Derived.WalkLawsBesides
import Derived.Lib.Hide
import Derived.BigQuiet
import Derived.Deep.QuietTactic
import Derived.Deep.RegionHeld3
import Derived.StillTailTactics
import Derived.Laws.AppendOwnNone
set_option linter.unusedSimpArgs false
set_option linter.unusedVariables false
namespace Go.Proofs.Ytmnpgkcdfielbaa
open Go.RowKit
theorem bR {n:Nat} {w:World}:Below n w w:=Below.refl _ _
theorem bHit {P:Program} {f:FuncId} {args:Array Value} {W:World} {Q:Ending→World→Prop} (w:World) (h:Below w.heap.size w W) (k:Below w.heap.size w W→Calls P f args W Q):Calls P f args W Q:=k h
theorem bA {w W:World} {o:Obj} (h:Below w.heap.size w W):Below w.heap.size w (W.alloc o):=h.alloc h.size o
theorem bD {w W:World} (h:Below w.heap.size w W):Below w.heap.size w W.drew:=h.drew
theorem bS {w W:World} {p:Addr} {u:Value} (h:Below w.heap.size w W) (hp:w.heap.size≤p.block):Below w.heap.size w (W.setCell p u):=h.setCell hp u
theorem bT {w W w1:World} (h:Below w.heap.size w W) (k:Below W.heap.size W w1):Below w.heap.size w w1:=h.trans (k.mono h.size)
theorem ret_bool {a b:Bool} (h:a=b):Ending.returned (.bool a)=.returned (.bool b):=by rw [h]
def inB (n lo hi:Int):Bool:=decide (lo≤n) && decide (n≤hi)
theorem inB_yes {n lo hi:Int} (h1:lo≤n) (h2:n≤hi):inB n lo hi=true:=by simp [inB,h1,h2]
theorem inB_no {n lo hi:Int} (h:n<lo∨hi<n):inB n lo hi=false:=by simp [inB];omega
theorem inB_lo {n lo hi:Int} (h:lo≤n):decide (n≤hi)=inB n lo hi:=by simp [inB,h]
def cellB (s e t:Int):Bool:=inB s 0 10 && inB e 0 999 && inB t 0 80
theorem cellB_1 {s e t:Int} (h:¬ inB s 0 10=true):false=cellB s e t:=by simp [cellB,h]
theorem cellB_2 {s e t:Int} (h:¬ inB e 0 999=true):false=cellB s e t:=by simp [cellB,h]
theorem cellB_3 {s e t:Int} (h:inB s 0 10=true) (h2:inB e 0 999=true):inB t 0 80=cellB s e t:=by simp [cellB,h,h2]
theorem eqB_1 {a b:Int} {r:Bool} (h:(a != b)=true):false=(a == b && r):=by simp at h;simp [h]
theorem eqB_2 {a b:Int} {r:Bool} (h:(a != b)=false):(a == b && r)=r:=by simp at h;simp [h]
def eqC (s e t s' e' t':Int):Bool:=s == s' && (e == e' && (t == t' && true))
theorem eqC_refl (s e t:Int):eqC s e t s e t=true:=by simp [eqC]
def laidF (s e t m:Int):Int:=if cellB s e t && inB m 0 999 then m else e
def turnB (s e t f n v:Int):Bool:=s == f && (cellB s e t && cellB n e v)
def turnS (s e t f n v:Int):Int:=if turnB s e t f n v then n else s
def turnW (s e t f n v:Int):Int:=if turnB s e t f n v then v else t
/-- n elements of k cells each lie from address a on, below block B; f says what each cell holds. -/
def Seg (w:World) (B:Nat) (a:Option Addr) (n k:Nat) (f:Nat→Nat→Value):Prop :=
  n=0∨∃ b o,a=some ⟨b,o,none⟩∧b<B∧∀ i j,i<n→j<k→w.cell? ⟨b,o+i*k+j,none⟩=some (f i j)
/-- Block b is just n elements of k cells each, of type t, none frozen; f says what each cell holds. -/
def Row (w:World) (b:Nat) (t:TypeId) (n k:Nat) (f:Nat→Nat→Value):Prop :=
  ∃ c:Array Value,w.heap[b]?=some (.cells c t (0,0))∧c.size=n*k∧∀ i j,i<n→j<k→c[i*k+j]?=some (f i j)
namespace Row
variable {w w':World} {b:Nat} {t:TypeId} {n k:Nat} {f g:Nat→Nat→Value}
theorem cell (h:Row w b t n k f) {i j:Nat} (hi:i<n) (hj:j<k):w.cell? ⟨b,i*k+j,none⟩=some (f i j):=by
  obtain ⟨c,hb,_,hc⟩:=h
  simp [World.cell?,hb,hc i j hi hj]
theorem frozen (h:Row w b t n k f) (o:Nat):w.frozen? ⟨b,o,none⟩=false:=by
  obtain ⟨c,hb,_,_⟩:=h
  simp [World.frozen?,hb]
theorem lt (h:Row w b t n k f):b<w.heap.size:=by
  obtain ⟨c,hb,_,_⟩:=h
  obtain ⟨hlt,_⟩:=Array.getElem?_eq_some_iff.1 hb
  exact hlt
theorem congr (h:Row w b t n k f) (e:∀ i j,i<n→j<k→f i j=g i j):Row w b t n k g:=by
  obtain ⟨c,hb,hn,hc⟩:=h
  exact ⟨c,hb,hn,fun i j hi hj=>by rw [hc i j hi hj,e i j hi hj]⟩
theorem of_block (h:Row w b t n k f) (e:w'.heap[b]?=w.heap[b]?):Row w' b t n k f:=by
  obtain ⟨c,hb,hn,hc⟩:=h
  exact ⟨c,e.trans hb,hn,hc⟩
theorem below {B:Nat} (h:Row w b t n k f) (hb:Below B w w') (hB:b<B):Row w' b t n k f:=h.of_block (hb.block b hB)
theorem idx {i j i' j' k:Nat} (hj:j<k) (hj':j'<k) (h:i*k+j=i'*k+j'):i=i'∧j=j':=by
  have h1:(i*k+j) / k=i:=by rw [Nat.mul_comm,Nat.mul_add_div (by omega),Nat.div_eq_of_lt hj];rfl
  have h2:(i'*k+j') / k=i':=by rw [Nat.mul_comm,Nat.mul_add_div (by omega),Nat.div_eq_of_lt hj'];rfl
  have:i=i':=by rw [← h1,← h2,h]
  subst this
  exact ⟨rfl,by omega⟩
theorem set (h:Row w b t n k f) {i j:Nat} (hi:i<n) (hj:j<k) (v:Value):Row (w.setCell ⟨b,i*k+j,none⟩ v) b t n k (fun i' j'=>if i'=i∧j'=j then v else f i' j'):=by
  obtain ⟨c,hb,hn,hc⟩:=h
  refine ⟨c.setIfInBounds (i*k+j) v,?_,by simpa using hn,fun i' j' hi' hj'=>?_⟩
  · simp [World.setCell,Array.getElem?_modify,hb]
  · rw [Array.getElem?_setIfInBounds]
    by_cases e:i*k+j=i'*k+j'
    · obtain ⟨rfl,rfl⟩:=idx hj hj' e
      have hlt:i*k+j<c.size:=(Array.getElem?_eq_some_iff.1 (hc i j hi hj)).1
      simp [hlt]
    · rw [if_neg e]
      show c[i'*k+j']?=some (if i'=i∧j'=j then v else f i' j')
      rw [if_neg (fun h=>e (by rw [h.1,h.2]))]
      exact hc i' j' hi' hj'
theorem set3 (h:Row w b t n 3 f) {i:Nat} (hi:i<n) (v:Nat→Value) :
    Row (((w.setCell ⟨b,i*3,none⟩ (v 0)).setCell ⟨b,i*3+1,none⟩ (v 1)).setCell ⟨b,i*3+2,none⟩ (v 2)) b t n 3 (fun i' j'=>if i'=i then v j' else f i' j'):=by
  refine (((h.set hi (j:=0) (by omega) (v 0)).set hi (j:=1) (by omega) (v 1)).set hi (j:=2) (by omega) (v 2)).congr fun i' j' _ hj=>?_
  have:j'=0∨j'=1∨j'=2:=by omega
  rcases this with rfl|rfl|rfl <;> by_cases e:i'=i <;> simp [e]
theorem alloc (h:Row w b t n k f) (o:Obj):Row (w.alloc o) b t n k f:=h.of_block (Below.heap_alloc w o b h.lt)
theorem setOther (h:Row w b t n k f) {a:Addr} (ha:b≠a.block) (v:Value):Row (w.setCell a v) b t n k f:=h.of_block (Below.heap_setCell w a v b ha)
theorem seg (h:Row w b t n k f):Seg w w.heap.size (some ⟨b,0,none⟩) n k f:=.inr ⟨b,0,rfl,h.lt,fun i j hi hj=>by simpa using h.cell hi hj⟩
theorem made (w:World) (z:Array Value) (n:Nat) (t:TypeId):Row (w.alloc (.cells (madeCells z (n*z.size)) t)) w.heap.size t n z.size (fun _ j=>z[j]!):=by
  refine ⟨_,heap_alloc_new w _,size_madeCells _ _,fun i j hi hj=>?_⟩
  have hlt:i*z.size+j<n*z.size:=by
    have:=Nat.mul_le_mul_right z.size (show i+1≤n from hi)
    rw [Nat.add_mul] at this
    omega
  simp [madeCells,hlt,Nat.mod_eq_of_lt hj]
end Row
theorem Seg.below {w w':World} {B:Nat} {a:Option Addr} {n k:Nat} {f:Nat→Nat→Value} (h:Seg w B a n k f) (hb:Below B w w'):Seg w' B a n k f:=by
  rcases h with h|⟨b,o,ha,hB,hc⟩
  · exact .inl h
  · exact .inr ⟨b,o,ha,hB,fun i j hi hj=>(hb.cell (p:=⟨b,o+i*k+j,none⟩) hB).trans (hc i j hi hj)⟩
theorem Seg.more {w:World} {B B':Nat} {a:Option Addr} {n k:Nat} {f:Nat→Nat→Value} (h:Seg w B a n k f) (hb:B≤B'):Seg w B' a n k f:=by
  rcases h with h|⟨b,o,ha,hB,hc⟩
  · exact .inl h
  · exact .inr ⟨b,o,ha,Nat.lt_of_lt_of_le hB hb,hc⟩
theorem Seg.setOther {w:World} {B B':Nat} {a:Option Addr} {n k:Nat} {f:Nat→Nat→Value} {p:Addr} {u:Value} (h:Seg w B a n k f) (hB:B≤B') (hp:B≤p.block):Seg (w.setCell p u) B' a n k f:=by
  rcases h with h|⟨b,o,ha,hb,hc⟩
  · exact .inl h
  · exact .inr ⟨b,o,ha,Nat.lt_of_lt_of_le hb hB,fun i j hi hj=>(World.cell?_setCell_other _ _ _ _ (fun e=>by subst e;simp at hp;omega)).trans (hc i j hi hj)⟩
structure C3 where
  s:Int
  e:Int
  t:Int
def C3.val (c:C3) (j:Nat):Value:=match j with|0=>.int .i64 c.s|1=>.int .i64 c.e|_=>.int .i64 c.t
def cellF (cs:List C3) (i j:Nat):Value:=(cs.getD i ⟨0,0,0⟩).val j
def okC (c:C3):Bool:=cellB c.s c.e c.t
theorem not_true {b:Bool} (h:(!b)=true):b=false:=by simpa using h
theorem not_false {b:Bool} (h:(!b)=false):b=true:=by simpa using h
theorem not_tt {b:Bool} (h:¬ b=true):b=false:=by simpa using h
theorem ret_i64 {a b:Int} (h:a=b):Ending.returned (.int .i64 a)=.returned (.int .i64 b):=by rw [h]
theorem take_snocC (cs:List C3) (k:Nat) (h:k<cs.length):cs.take (k+1)=cs.take k ++ [cs.getD k ⟨0,0,0⟩]:=by
  rw [List.take_succ_eq_append_getElem h];simp [List.getD,List.getElem?_eq_getElem h]
/-- The first k elements are those of cs, the rest is zero. -/
def partF (cs:List C3) (k i j:Nat):Value:=if i<k then cellF cs i j else .int .i64 0
theorem part_step {cs:List C3} {k:Nat} {c:C3} (h:cs.getD k ⟨0,0,0⟩=c) (i j:Nat):(if i=k then c.val j else partF cs k i j)=partF cs (k+1) i j:=by
  unfold partF
  by_cases e:i=k
  · subst e;simp only [if_true];rw [if_pos (by omega),cellF,h]
  · rw [if_neg e]
    by_cases e2:i<k
    · rw [if_pos e2,if_pos (by omega)]
    · rw [if_neg e2,if_neg (by omega)]
theorem part_end (cs:List C3):∀ i j,i<cs.length→j<3→partF cs cs.length i j=cellF cs i j:=fun i j hi _=>by simp [partF,hi]
/-- What only makes memory, and writes what it has made: shown by its shape. -/
theorem zB {lo:Nat} {w W:World} (h:Below lo w W:=by (repeat (with_reducible first|assumption|exact bR|refine bA ?_|refine bD ?_|((first|refine bS ?_ ?_|refine bBx ?_ ?_);rotate_left;focus (try simp) <;> (try omega))))):Below lo w W:=h
end Go.Proofs.Ytmnpgkcdfielbaa
set_option linter.unusedSimpArgs false
set_option linter.unusedVariables false
namespace Go.Proofs.Ytmnpgkcdfielbaa
open Go.RowKit
theorem rCell {g b:Nat} {w w1:World} (h:w.grownBy w1 (some g)) (hb:b<w.heap.size) (hn:b≠g) (o:Nat):w1.cell? ⟨b,o,none⟩=w.cell? ⟨b,o,none⟩:=World.cell?_of_block (h.block b hb (by simpa using hn))
theorem rFroz {g b:Nat} {w w1:World} (h:w.grownBy w1 (some g)) (hb:b<w.heap.size) (hn:b≠g) (o:Nat):w1.frozen? ⟨b,o,none⟩=w.frozen? ⟨b,o,none⟩:=World.frozen?_of_block (h.block b hb (by simpa using hn))
def intF (l:List Int) (i _j:Nat):Value:=.int .i64 (l.getD i 0)
def flatC (cs:List C3):List Value:=cs.flatMap fun c=>[.int .i64 c.s,.int .i64 c.e,.int .i64 c.t]
theorem flatC_len (cs:List C3):(flatC cs).length=cs.length*3:=by
  induction cs with
  | nil=>rfl
  | cons c cs ih=>simp [flatC] at *;omega
theorem flatC_get:∀ (cs:List C3) (i j:Nat),i<cs.length→j<3→(flatC cs)[i*3+j]?=some (cellF cs i j)
  | [],i,j,hi,_=>by simp at hi
  | c :: cs,0,j,_,hj=>by
    have:j=0∨j=1∨j=2:=by omega
    rcases this with rfl|rfl|rfl <;> simp [flatC,cellF,C3.val]
  | c :: cs,i+1,j,hi,hj=>by
    have h:=flatC_get cs i j (by simpa using hi) hj
    have e:(i+1)*3+j=(i*3+j)+3:=by omega
    rw [e]
    simpa [flatC,cellF] using h
theorem flatC_one (cs:List C3):∀ u ∈ flatC cs,u.oneCell'=true:=by
  intro u hu
  simp only [flatC,List.mem_flatMap] at hu
  obtain ⟨c,_,hc⟩:=hu
  simp at hc
  rcases hc with rfl|rfl|rfl <;> rfl
def ints (l:List Int):List Value:=l.map (Value.int .i64)
theorem ints_one (l:List Int):∀ u ∈ ints l,u.oneCell'=true:=by
  intro u hu
  obtain ⟨x,_,rfl⟩:=List.mem_map.1 hu
  rfl
theorem bOwn {w W w1:World} {lo:Nat} {row:Option Nat} (h:Below lo w W) (hg:W.grownBy w1 row) (hB:lo≤W.heap.size) (hr:∀ k,row=some k→lo≤k):Below lo w w1:=h.grown hg hB hr
/-- The call's own list of cells, of numbers. -/
abbrev OCells (w:World) (lo:Nat) (v:Value) (cs:List C3):Prop:=w.ownsRow lo 98 3 v cs.length (flatC cs)
abbrev OInts (w:World) (lo:Nat) (v:Value) (l:List Int):Prop:=w.ownsRow lo 2 1 v l.length (ints l)
/-- An own list of cells, of numbers, lies in memory as a list. -/
theorem OCells.seg {w:World} {lo:Nat} {v:Value} {cs:List C3} (h:OCells w lo v cs):∃ (a:Option Addr) (cap:Nat),v=.slice a cs.length cap∧Seg w w.heap.size a cs.length 3 (cellF cs):=by
  rcases h.2 with ⟨rfl,h0⟩|⟨g,cap,cur,rfl,_,hg,_⟩
  · exact ⟨none,0,by rw [h0],.inl h0⟩
  · refine ⟨_,cap,rfl,.inr ⟨g,0,rfl,(Array.getElem?_eq_some_iff.1 hg).1,fun i j hi hj=>?_⟩⟩
    have:=h.cells (g:=g) rfl (i*3+j) _ (flatC_get cs i j hi hj)
    rw [← this]
    congr 1
    by_cases e:i*3+j=0 <;> simp [Addr.add,e] <;> omega
theorem OInts.seg {w:World} {lo:Nat} {v:Value} {l:List Int} (h:OInts w lo v l):∃ (a:Option Addr) (cap:Nat),v=.slice a l.length cap∧Seg w w.heap.size a l.length 1 (intF l):=by
  rcases h.2 with ⟨rfl,h0⟩|⟨g,cap,cur,rfl,_,hg,_⟩
  · exact ⟨none,0,by rw [h0],.inl h0⟩
  · refine ⟨_,cap,rfl,.inr ⟨g,0,rfl,(Array.getElem?_eq_some_iff.1 hg).1,fun i j hi hj=>?_⟩⟩
    have hj0:j=0:=by omega
    subst hj0
    have:=h.cells (g:=g) rfl i (intF l i 0) (by simp [ints,intF,List.getD,hi])
    rw [← this]
    congr 1
    by_cases e:i=0 <;> simp [Addr.add,e] <;> omega
/-- What lies from an address on, cell by cell. -/
theorem Seg.newsC {w:World} {B b o:Nat} {cs:List C3} (h:Seg w B (some ⟨b,o,none⟩) cs.length 3 (cellF cs)):∀ j u,(flatC cs)[j]?=some u→w.cell? ((⟨b,o,none⟩:Addr).add j)=some u:=by
  intro j u hu
  have hj:j<cs.length*3:=by rw [← flatC_len];exact (List.getElem?_eq_some_iff.1 hu).1
  rcases h with h0|⟨b',o',e,_,hc⟩
  · omega
  · simp at e
    obtain ⟨rfl,rfl⟩:=e
    have e2:j=j / 3*3+j % 3:=by omega
    have h1:=flatC_get cs (j / 3) (j % 3) (by omega) (by omega)
    rw [← e2] at h1
    have h2:=hc (j / 3) (j % 3) (by omega) (by omega)
    rw [h1] at hu
    simp at hu
    rw [← hu,← h2]
    congr 1
    by_cases e:j=0 <;> simp [Addr.add,e] <;> omega
theorem Seg.newsI {w:World} {B b o:Nat} {l:List Int} (h:Seg w B (some ⟨b,o,none⟩) l.length 1 (intF l)):∀ j u,(ints l)[j]?=some u→w.cell? ((⟨b,o,none⟩:Addr).add j)=some u:=by
  intro j u hu
  have hj:j<l.length:=by have:=(List.getElem?_eq_some_iff.1 hu).1;simpa [ints] using this
  rcases h with h0|⟨b',o',e,_,hc⟩
  · omega
  · simp at e
    obtain ⟨rfl,rfl⟩:=e
    have h2:=hc j 0 hj (by omega)
    have:u=intF l j 0:=by simp [ints,hj] at hu;simp [intF,List.getD,hj,← hu]
    rw [this,← h2]
    congr 1
    by_cases e:j=0 <;> simp [Addr.add,e]
/-- An empty row that has just been made. -/
theorem own_made (w:World) (lo:Nat) (e:TypeId) (k:Nat) (h:lo≤w.heap.size):(w.alloc (.cells #[] e)).ownsRow lo e k (.slice (some ⟨w.heap.size,0,none⟩) 0 0) 0 [] :=
  World.ownsRow_made w #[] 0 h (by simp) (by simp)
theorem own_made_at (w:World) (lo:Nat) (e:TypeId) (k n:Nat) (hn:n=w.heap.size) (h:lo≤w.heap.size):(w.alloc (.cells #[] e)).ownsRow lo e k (.slice (some ⟨n,0,none⟩) 0 0) 0 []:=by
  subst hn;exact own_made w lo e k h
theorem cell_alloc_of {w:World} {p:Addr} {u:Value} {o:Obj} (h:w.cell? p=some u):(w.alloc o).cell? p=some u:=by
  rw [World.cell?_alloc_lt _ _ _ (World.block_lt_of_cell? w p h)];exact h
theorem own_lo {w:World} {lo lo':Nat} {e:TypeId} {k n:Nat} {v:Value} {xs:List Value} (h:w.ownsRow lo e k v n xs) (hl:lo'≤lo):w.ownsRow lo' e k v n xs:=by
  refine ⟨h.1,?_⟩
  rcases h.2 with h|⟨g,cap,cur,h1,h2,h3⟩
  · exact .inl h
  · exact .inr ⟨g,cap,cur,h1,Nat.le_trans hl h2,h3⟩
theorem own_ne {w:World} {lo:Nat} {e:TypeId} {k n:Nat} {v:Value} {xs:List Value} (h:w.ownsRow lo e k v n xs) {b:Nat} (hb:b<lo):v.ownBlock≠some b:=fun he=>by have:=(h.lt b he).1;omega
theorem own_below {w w1:World} {lo:Nat} {e:TypeId} {k n:Nat} {v:Value} {xs:List Value} (h:w.ownsRow lo e k v n xs) (hb:Below w.heap.size w w1):w1.ownsRow lo e k v n xs :=
  h.kept (row:=none) ⟨hb.os,hb.tape,hb.output,hb.size,fun i hi _=>hb.block i hi⟩ (by cases v.ownBlock <;> simp)
theorem oAl {w:World} {lo:Nat} {e:TypeId} {k n:Nat} {v:Value} {xs:List Value} (h:w.ownsRow lo e k v n xs) (o:Obj):(w.alloc o).ownsRow lo e k v n xs:=World.ownsRow.alloc h o
theorem oDr {w:World} {lo:Nat} {e:TypeId} {k n:Nat} {v:Value} {xs:List Value} (h:w.ownsRow lo e k v n xs):w.drew.ownsRow lo e k v n xs:=h
theorem own_store {w:World} {lo:Nat} {e:TypeId} {k n:Nat} {v:Value} {xs:List Value} (h:w.ownsRow lo e k v n xs) {p:Addr} (hp:v.ownBlock≠some p.block) (u:Value):(w.setCell p u).ownsRow lo e k v n xs :=
  h.kept (row:=some p.block) ⟨rfl,rfl,rfl,by simp [World.setCell],fun i _ hn=>Below.heap_setCell w p u i (fun e=>hn (by rw [e]))⟩ (.inr hp)
theorem own_set_cell {w:World} {lo:Nat} {e:TypeId} {k g n cap:Nat} {xs:List Value} (h:w.ownsRow lo e k (.slice (some ⟨g,0,none⟩) n cap) n xs) (i:Nat) (hi:i<xs.length) (u:Value) :
    (w.setCell ⟨g,i,none⟩ u).ownsRow lo e k (.slice (some ⟨g,0,none⟩) n cap) n (xs.set i u):=by
  refine ⟨by simpa using h.1,?_⟩
  rcases h.2 with ⟨h0,_⟩|⟨g',cap',cur,h1,h2,h3,h4,h5,h6,h7⟩
  · simp at h0
  · simp at h1
    obtain ⟨rfl,rfl⟩:=h1
    refine .inr ⟨g,cap,cur.setIfInBounds i u,rfl,h2,by simp [World.setCell,Array.getElem?_modify,h3],h4,h5,by simpa using h6,?_⟩
    rw [Array.toList_setIfInBounds,← h7,List.take_set]
theorem ints_set (l:List Int) (i:Nat) (x:Int):ints (l.set i x)=(ints l).set i (.int .i64 x):=by simp [ints,List.map_set]
theorem ints_len (l:List Int):(ints l).length=l.length:=by simp [ints]
theorem infoInt:(Try.prog.info? 2).map (fun i=>(i.zero,i.size,i.bytes))=some (some (.int .i64 0),1,8):=by kernel_rfl
/-- Only block g may have turned. -/
abbrev Gr (g:Nat) (w w':World):Prop:=w.grownBy w' (some g)
theorem gR (g:Nat) (w:World):Gr g w w:=⟨rfl,rfl,rfl,Nat.le_refl _,fun _ _ _=>rfl⟩
theorem gS {g:Nat} {w W:World} {p:Addr} {u:Value} (h:Gr g w W) (hp:p.block=g∨w.heap.size≤p.block):Gr g w (W.setCell p u) :=
  ⟨h.os,h.tape,h.output,by simpa [World.setCell] using h.size,fun k hk hn=>(Below.heap_setCell W p u k (by
    rintro rfl
    rcases hp with hp|hp
    · exact hn (by rw [hp])
    · omega)).trans (h.block k hk hn)⟩
/-- An own list through boxes that are made and written: shown by its shape. -/
theorem zO {w w0 W:World} {lo lo0:Nat} {e e0:TypeId} {k k0 m m0:Nat} {v:Value} {xs xs0:List Value} (h:w.ownsRow lo e k v m xs) (H0:w0.ownsRow lo0 e0 k0 v m0 xs0) (r:w.ownsRow lo e k v m xs→w0.ownsRow lo0 e0 k0 v m0 xs0→W.ownsRow lo e k v m xs:=by (intro zh zH;repeat first|with_reducible exact zh|with_reducible refine oAl ?_ _|with_reducible refine oDr ?_|((with_reducible first|refine own_store ?_ ?_ _|refine own_box ?_ ?_);rotate_left;focus first|(refine own_ne zH ?_;(try dsimp only);omega)|(refine own_ne' zH ?_;(try dsimp only);omega)))):W.ownsRow lo e k v m xs:=r h H0
end Go.Proofs.Ytmnpgkcdfielbaa
set_option linter.unusedSimpArgs false
set_option linter.unusedVariables false
namespace Go.Proofs.Ytmnpgkcdfielbaa
open Go.RowKit
theorem infoCell:(Try.prog.info? 98).map (fun i=>(i.zero,i.size,i.bytes))=some (some (.agg #[.int .i64 0,.int .i64 0,.int .i64 0]),3,24):=by kernel_rfl
theorem mkCells (n:Nat) (h:n≤1048576) (W:World):(Instr.makeSlice 31 (.int .i64 n) (.int .i64 n)).run Try.prog W=.ok (.slice (some ⟨W.heap.size,0,none⟩) n n) (W.alloc (.cells (madeCells #[.int .i64 0,.int .i64 0,.int .i64 0] (n*3)) 98)):=by
  obtain ⟨i,hi,hz,hs,hb⟩:=info_parts infoCell
  have:=run_make (P:=Try.prog) W 31 98 i _ Try.underlying31 hi hz .i64 .i64 n n (by omega) (by omega) (by rw [hb];omega) (by omega)
  rw [this,hs]
  simp [Value.cells]
theorem mkInts (n:Nat) (h:n≤1048576) (W:World):(Instr.makeSlice 23 (.int .i64 n) (.int .i64 n)).run Try.prog W=.ok (.slice (some ⟨W.heap.size,0,none⟩) n n) (W.alloc (.cells (madeCells #[.int .i64 0] (n*1)) 2)):=by
  obtain ⟨i,hi,hz,hs,hb⟩:=info_parts infoInt
  have:=run_make (P:=Try.prog) W 23 2 i _ Try.underlying23 hi hz .i64 .i64 n n (by omega) (by omega) (by rw [hb];omega) (by omega)
  rw [this,hs]
  simp [Value.cells]
end Go.Proofs.Ytmnpgkcdfielbaa
