/-
  Small lemmas on worlds, lists in memory and cells; no condition.
-/
import Derived.Test.YtffhjmepfojhnaaGreatProg
import Derived.WalkKit
import Derived.WalkSpells
import Derived.WalkLawsBesides
import Derived.Lib.Hide
import Derived.BigQuiet
import Derived.Deep.QuietTactic
import Derived.Deep.RegionHeld3
import Derived.StillTailTactics
import Derived.Laws.AppendOwnNone
import Derived.Laws.IdiomCopy
set_option maxRecDepth 100000
set_option maxHeartbeats 2000000
set_option linter.unusedSimpArgs false
set_option linter.unusedVariables false
namespace Go.Proofs.YtffhjmepfojhnaaGreat
section
open Go.RowKit
theorem bR {n:Nat} {w:World}:Below n w w:=Below.refl _ _
theorem ax {P:Program} {f:FuncId} {args:Array Value} {W:World} {Q:Ending→World→Prop} (w:World) (h:Below w.heap.size w W) (k:Below w.heap.size w W→Calls P f args W Q):Calls P f args W Q:=k h
theorem bA {w W:World} {o:Obj} (h:Below w.heap.size w W):Below w.heap.size w (W.alloc o):=h.alloc h.size o
theorem bD {w W:World} (h:Below w.heap.size w W):Below w.heap.size w W.drew:=h.drew
theorem bS {w W:World} {p:Addr} {u:Value} (h:Below w.heap.size w W) (hp:w.heap.size≤p.block):Below w.heap.size w (W.setCell p u):=h.setCell hp u
theorem bT {w W w1:World} (h:Below w.heap.size w W) (k:Below W.heap.size W w1):Below w.heap.size w w1:=h.trans (k.mono h.size)
theorem bF {a b:Bool} (h:a=b):Ending.returned (.bool a)=.returned (.bool b):=by rw [h]
def dm (n lo hi:Int):Bool:=decide (lo≤n) && decide (n≤hi)
theorem Lh {n lo hi:Int} (h1:lo≤n) (h2:n≤hi):dm n lo hi=true:=by simp [dm,h1,h2]
theorem sQ {n lo hi:Int} (h:n<lo∨hi<n):dm n lo hi=false:=by simp [dm];omega
theorem IC {n lo hi:Int} (h:lo≤n):decide (n≤hi)=dm n lo hi:=by simp [dm,h]
theorem kY {n lo hi:Int}:dm n lo hi=true↔lo≤n∧n≤hi:=by simp [dm]
def jv (s e t:Int):Bool:=dm s 0 10 && dm e 0 999 && dm t 0 80
theorem EU {s e t:Int} (h:¬ dm s 0 10=true):false=jv s e t:=by simp [jv,h]
theorem EW {s e t:Int} (h:¬ dm e 0 999=true):false=jv s e t:=by simp [jv,h]
theorem EX {s e t:Int} (h:dm s 0 10=true) (h2:dm e 0 999=true):dm t 0 80=jv s e t:=by simp [jv,h,h2]
def kQ (s e t m:Int):Int:=if jv s e t && dm m 0 999 then m else e
theorem EY {s e t m:Int} (h:¬ jv s e t=true):kQ s e t m=e:=by simp [kQ,h]
theorem EZ {s e t m:Int} (h:(!dm m 0 999)=true):kQ s e t m=e:=by simp at h;simp [kQ,h]
theorem Fa {s e t m:Int} (h1:jv s e t=true) (h:(!dm m 0 999)=false):kQ s e t m=m:=by simp at h;simp [kQ,h1,h]
def jT (s e t f n v:Int):Bool:=s == f && (jv s e t && jv n e v)
def sS (s e t f n v:Int):Int:=if jT s e t f n v then n else s
def sU (s e t f n v:Int):Int:=if jT s e t f n v then v else t
theorem IE {s e t f n v:Int} (h:¬ s=f):jT s e t f n v=false:=by simp [jT,h]
theorem xQ {s e t f n v:Int} (h:¬ jv s e t=true):jT s e t f n v=false:=by simp [jT,h]
theorem IG {s e t f n v:Int} (h:(!jv n e v)=true):jT s e t f n v=false:=by simp at h;simp [jT,h]
theorem II {s e t n v:Int} (h1:jv s e t=true) (h:(!jv n e v)=false):jT s e t s n v=true:=by simp at h;simp [jT,h,h1]
def rH (s e t f n v:Int) (r:Ending):Prop:=r=.returned (.tuple #[.agg #[.int .i64 (sS s e t f n v),.int .i64 e,.int .i64 (sU s e t f n v)],.bool (jT s e t f n v)])
theorem qm {s e t f n v:Int} (h:jT s e t f n v=false):rH s e t f n v (.returned (.tuple #[.agg #[.int .i64 s,.int .i64 e,.int .i64 t],.bool false])):=by simp [rH,sS,sU,h]
theorem wO {s e t f n v:Int} (h:jT s e t f n v=true):rH s e t f n v (.returned (.tuple #[.agg #[.int .i64 n,.int .i64 e,.int .i64 v],.bool true])):=by simp [rH,sS,sU,h]
def Seg (w:World) (B:Nat) (a:Option Addr) (n k:Nat) (f:Nat→Nat→Value):Prop :=
 n=0∨∃ b o,a=some ⟨b,o,none⟩∧b<B∧∀ i j,i<n→j<k→w.cell? ⟨b,o+i*k+j,none⟩=some (f i j)
def Row (w:World) (b:Nat) (t:TypeId) (n k:Nat) (f:Nat→Nat→Value):Prop :=
 ∃ c:Array Value,w.heap[b]?=some (.cells c t (0,0))∧c.size=n*k∧∀ i j,i<n→j<k→c[i*k+j]?=some (f i j)
namespace Row
variable {w w':World} {b:Nat} {t:TypeId} {n k:Nat} {f g:Nat→Nat→Value}
theorem cell (h:Row w b t n k f) {i j:Nat} (hi:i<n) (hj:j<k):w.cell? ⟨b,i*k+j,none⟩=some (f i j):=by
 obtain ⟨c,hb,_,hc⟩:=h
 simp [World.cell?,hb,hc i j hi hj]
theorem frozen (h:Row w b t n k f) (o:Nat):w.frozen? ⟨b,o,none⟩=false:=by
 obtain ⟨c,hb,_,_⟩:=h
 simp [World.frozen?,hb]
theorem lt (h:Row w b t n k f):b<w.heap.size:=by
 obtain ⟨c,hb,_,_⟩:=h
 obtain ⟨hlt,_⟩:=Array.getElem?_eq_some_iff.1 hb
 exact hlt
theorem congr (h:Row w b t n k f) (e:∀ i j,i<n→j<k→f i j=g i j):Row w b t n k g:=by
 obtain ⟨c,hb,hn,hc⟩:=h
 exact ⟨c,hb,hn,fun i j hi hj=>by rw [hc i j hi hj,e i j hi hj]⟩
theorem of_block (h:Row w b t n k f) (e:w'.heap[b]?=w.heap[b]?):Row w' b t n k f:=by
 obtain ⟨c,hb,hn,hc⟩:=h
 exact ⟨c,e.trans hb,hn,hc⟩
theorem below {B:Nat} (h:Row w b t n k f) (hb:Below B w w') (hB:b<B):Row w' b t n k f:=h.of_block (hb.block b hB)
theorem idx {i j i' j' k:Nat} (hj:j<k) (hj':j'<k) (h:i*k+j=i'*k+j'):i=i'∧j=j':=by
 have h1:(i*k+j) / k=i:=by rw [Nat.mul_comm,Nat.mul_add_div (by omega),Nat.div_eq_of_lt hj];rfl
 have h2:(i'*k+j') / k=i':=by rw [Nat.mul_comm,Nat.mul_add_div (by omega),Nat.div_eq_of_lt hj'];rfl
 have:i=i':=by rw [← h1,← h2,h]
 subst this
 exact ⟨rfl,by omega⟩
theorem set (h:Row w b t n k f) {i j:Nat} (hi:i<n) (hj:j<k) (v:Value):Row (w.setCell ⟨b,i*k+j,none⟩ v) b t n k (fun i' j'=>if i'=i∧j'=j then v else f i' j'):=by
 obtain ⟨c,hb,hn,hc⟩:=h
 refine ⟨c.setIfInBounds (i*k+j) v,?_,by simpa using hn,fun i' j' hi' hj'=>?_⟩
 ·simp [World.setCell,Array.getElem?_modify,hb]
 ·rw [Array.getElem?_setIfInBounds]
  by_cases e:i*k+j=i'*k+j'
  ·obtain ⟨rfl,rfl⟩:=idx hj hj' e
   have hlt:i*k+j<c.size:=(Array.getElem?_eq_some_iff.1 (hc i j hi hj)).1
   simp [hlt]
  ·rw [if_neg e]
   show c[i'*k+j']?=some (if i'=i∧j'=j then v else f i' j')
   rw [if_neg (fun h=>e (by rw [h.1,h.2]))]
   exact hc i' j' hi' hj'
theorem alloc (h:Row w b t n k f) (o:Obj):Row (w.alloc o) b t n k f:=h.of_block (Below.heap_alloc w o b h.lt)
theorem setOther (h:Row w b t n k f) {a:Addr} (ha:b≠a.block) (v:Value):Row (w.setCell a v) b t n k f:=h.of_block (Below.heap_setCell w a v b ha)
theorem seg (h:Row w b t n k f):Seg w w.heap.size (some ⟨b,0,none⟩) n k f:=.inr ⟨b,0,rfl,h.lt,fun i j hi hj=>by simpa using h.cell hi hj⟩
theorem made (w:World) (z:Array Value) (n:Nat) (t:TypeId):Row (w.alloc (.cells (madeCells z (n*z.size)) t)) w.heap.size t n z.size (fun _ j=>z[j]!):=by
 refine ⟨_,heap_alloc_new w _,size_madeCells _ _,fun i j hi hj=>?_⟩
 have hlt:i*z.size+j<n*z.size:=by
  have:=Nat.mul_le_mul_right z.size (show i+1≤n from hi)
  rw [Nat.add_mul] at this
  omega
 simp [madeCells,hlt,Nat.mod_eq_of_lt hj]
end Row
theorem Seg.below {w w':World} {B:Nat} {a:Option Addr} {n k:Nat} {f:Nat→Nat→Value} (h:Seg w B a n k f) (hb:Below B w w'):Seg w' B a n k f:=by
 rcases h with h|⟨b,o,ha,hB,hc⟩
 ·exact .inl h
 ·exact .inr ⟨b,o,ha,hB,fun i j hi hj=>(hb.cell (p:=⟨b,o+i*k+j,none⟩) hB).trans (hc i j hi hj)⟩
theorem Seg.more {w:World} {B B':Nat} {a:Option Addr} {n k:Nat} {f:Nat→Nat→Value} (h:Seg w B a n k f) (hb:B≤B'):Seg w B' a n k f:=by
 rcases h with h|⟨b,o,ha,hB,hc⟩
 ·exact .inl h
 ·exact .inr ⟨b,o,ha,Nat.lt_of_lt_of_le hB hb,hc⟩
theorem Seg.setOther {w:World} {B B':Nat} {a:Option Addr} {n k:Nat} {f:Nat→Nat→Value} {p:Addr} {u:Value} (h:Seg w B a n k f) (hB:B≤B') (hp:B≤p.block):Seg (w.setCell p u) B' a n k f:=by
 rcases h with h|⟨b,o,ha,hb,hc⟩
 ·exact .inl h
 ·exact .inr ⟨b,o,ha,Nat.lt_of_lt_of_le hb hB,fun i j hi hj=>(World.cell?_setCell_other _ _ _ _ (fun e=>by subst e;simp at hp;omega)).trans (hc i j hi hj)⟩
structure C3 where
 s:Int
 e:Int
 t:Int
def C3.val (c:C3) (j:Nat):Value:=match j with|0=>.int .i64 c.s|1=>.int .i64 c.e|_=>.int .i64 c.t
def ib (cs:List C3) (i j:Nat):Value:=(cs.getD i ⟨0,0,0⟩).val j
def OV (c:C3):Bool:=jv c.s c.e c.t
theorem not_true {b:Bool} (h:(!b)=true):b=false:=by simpa using h
theorem not_false {b:Bool} (h:(!b)=false):b=true:=by simpa using h
theorem NQ {b:Bool} (h:¬ b=true):b=false:=by simpa using h
theorem mX {a b:Int} (h:a=b):Ending.returned (.int .i64 a)=.returned (.int .i64 b):=by rw [h]
theorem mY (cs:List C3) (k:Nat) (h:k<cs.length):cs.take (k+1)=cs.take k ++ [cs.getD k ⟨0,0,0⟩]:=by
 rw [List.take_succ_eq_append_getElem h];simp [List.getD,List.getElem?_eq_getElem h]
theorem zB {lo:Nat} {w W:World} (h:Below lo w W:=by (repeat (with_reducible first|assumption|exact bR|refine bA ?_|refine bD ?_|((first|refine bS ?_ ?_|refine Fb ?_ ?_);rotate_left;focus (try simp) <;> (try omega))))):Below lo w W:=h
theorem tS {P:Prop} (h:P:=by (try simp) <;> omega):P:=h
theorem tO {P:Prop} (h:P:=by omega):P:=h
end
section
open Go.RowKit
def upd {α:Type} (f:Nat→α) (k:Nat) (v:α):Nat→α:=fun j=>cond (Nat.beq j k) v (f j)
theorem ae {α:Type} (f:Nat→α) (k j:Nat) (v:α):upd f k v j=if j=k then v else f j:=by
 unfold upd
 by_cases h:j=k
 ·subst h;simp
 ·have:Nat.beq j k=false:=by cases hb:Nat.beq j k with
   | false=>rfl
   | true=>exact absurd (Nat.eq_of_beq_eq_true hb) h
  simp [this,h]
theorem nU {b:Bool} {P:Prop} (e:b=false) (h:b=true):P:=by rw [e] at h;cases h
def fC (t:Array Value):List Nat→(Nat→Value)→Array Value
 | [],_=>t
 | d :: ds,s=>(fC t ds s).setIfInBounds d (s d)
def fill (a:Act) (ds:List Nat) (s:Nat→Value):Act:=⟨fC a.tmps ds s,a.defers⟩
theorem Cz (t:Array Value) (ds:List Nat) (s:Nat→Value):(fC t ds s).size=t.size:=by
 induction ds with
 | nil=>rfl
 | cons d ds ih=>simp [fC,ih]
theorem FR (t:Array Value) (ds:List Nat) (s:Nat→Value) (k:Nat):(fC t ds s)[k]?=if k ∈ ds then (t[k]?).map (fun _=>s k) else t[k]?:=by
 induction ds with
 | nil=>simp [fC]
 | cons d ds ih =>
  simp only [fC,Array.getElem?_setIfInBounds,Cz]
  by_cases h:d=k
  ·subst h
   by_cases hl:d<t.size
   ·simp [hl]
   ·simp [hl]
  ·have h2:¬ k=d:=fun e=>h e.symm
   simp only [h,if_false,List.mem_cons,h2,false_or]
   exact ih
theorem wP (a:Act) (ds:List Nat):fill a ds (fun k=>a.tmps.getD k undef)=a:=by
 unfold fill
 have:fC a.tmps ds (fun k=>a.tmps.getD k undef)=a.tmps:=by
  apply Array.ext_getElem?
  intro k
  rw [FR]
  by_cases hl:k<a.tmps.size
  ·simp [hl]
  ·simp [hl]
 rw [this]
def left (l:Nat→Bool):Nat→Nat
 | 0=>0
 | n+1=>left l n+cond (l n) 0 1
theorem IJ (l:Nat→Bool) (i n:Nat) (h:n≤i):left (upd l i true) n=left l n:=by
 induction n with
 | zero=>rfl
 | succ n ih =>
  have:upd l i true n=l n:=by rw [ae,if_neg tO]
  simp [left,ih tO,this]
theorem IK (l:Nat→Bool) (i n:Nat) (h:i<n) (hi:l i=false):left (upd l i true) n+1=left l n:=by
 induction n with
 | zero=>omega
 | succ n ih =>
  by_cases e:i=n
  ·subst e
   have:upd l i true i=true:=by rw [ae,if_pos rfl]
   simp [left,IJ l i i (Nat.le_refl _),this,hi]
  ·have:upd l i true n=l n:=by rw [ae,if_neg tO]
   have:=ih tO
   simp only [left, *]
   omega
theorem FT (l:Nat→Bool) (n:Nat) (h:left l n=0):∀ i,i<n→l i=true:=by
 induction n with
 | zero=>intro i hi;omega
 | succ n ih =>
  intro i hi
  simp only [left] at h
  by_cases e:i=n
  ·subst e
   cases hl:l i with
   | true=>rfl
   | false=>simp [hl] at h
  ·exact ih tO i tO
def mZ (T:List (List Nat)):Nat→List Oper→Bool
 | _,[]=>true
 | i,o :: os=>(o.after.toList.all fun e=>!Region.binds .any e || Nat.blt e.on i) && ((T.getD i []).all fun t=>o.after.toList.any fun e=>Region.binds .any e && (Nat.beq e.on t || (T.getD e.on []).any fun u=>Nat.beq u t)) && mZ T (i+1) os
theorem C8 {T:List (List Nat)} {j:Nat} {o:Oper}:∀ (os:List Oper) (i:Nat),mZ T i os=true→os[j]?=some o →
  (∀ e ∈ o.after,Region.binds .any e=true→e.on<i+j)∧∀ t ∈ T.getD (i+j) [],∃ e ∈ o.after,Region.binds .any e=true∧(e.on=t∨t ∈ T.getD e.on []):=by
 induction j with
 | zero =>
  intro os i h ho
  cases os with
  | nil=>simp at ho
  | cons p os =>
   simp at ho
   subst ho
   simp only [mZ,Bool.and_eq_true] at h
   obtain ⟨⟨h1,h2⟩,_⟩:=h
   refine ⟨fun e he hb=>?_,fun t ht=>?_⟩
   ·have:=List.all_eq_true.1 h1 e (by simpa using he)
    simp [hb] at this
    simpa [Nat.blt_eq] using this
   ·have:=List.all_eq_true.1 h2 t (by simpa using ht)
    obtain ⟨e,he,h3⟩:=List.any_eq_true.1 this
    simp only [Bool.and_eq_true,Bool.or_eq_true] at h3
    refine ⟨e,by simpa using he,h3.1,?_⟩
    rcases h3.2 with h4|h4
    ·exact .inl (Nat.eq_of_beq_eq_true h4)
    ·obtain ⟨u,hu,h5⟩:=List.any_eq_true.1 h4
     exact .inr ((Nat.eq_of_beq_eq_true h5) ▸ hu)
 | succ j ih =>
  intro os i h ho
  cases os with
  | nil=>simp at ho
  | cons p os =>
   simp at ho
   simp only [mZ,Bool.and_eq_true] at h
   have:=ih os (i+1) h.2 ho
   rw [show i+(j+1)=i+1+j by omega]
   exact this
section
variable {P:Program} {ops:Array Oper} {Q:Exit→Act→World→Prop}
def IL (P:Program) (ops:Array Oper) (Q:Exit→Act→World→Prop) (T:List (List Nat)) (F:(Nat→Value)→Act) (Φ:(Nat→Bool)→(Nat→Value)→World→Prop) (i:Nat) (o:Oper):Prop :=
 ∀ (l:Nat→Bool) (s:Nat→Value) (w:World),l i=false→(∀ t,(T.getD i []).any (Nat.beq t)=true→l t=true)→(∀ j,(T.getD j []).any (Nat.beq i)=true→l j=false)→Hid (Φ l s w) →
  ∀ K':Act→World→Prop,Shut (∀ s' a' w',a'=F s'→Φ (upd l i true) s' w'→K' a' w')→if Region.wanted o (yielded ops (F s).tmps)=true then Oper.wp P o (F s) w K' Q else K' ((F s).put o.dst undef) w
def Steps (P:Program) (ops:Array Oper) (Q:Exit→Act→World→Prop) (T:List (List Nat)) (F:(Nat→Value)→Act) (Φ:(Nat→Bool)→(Nat→Value)→World→Prop):Nat→List Oper→Prop
 | _,[]=>True
 | i,o :: os=>IL P ops Q T F Φ i o∧Steps P ops Q T F Φ (i+1) os
theorem Steps.at {T:List (List Nat)} {F:(Nat→Value)→Act} {Φ:(Nat→Bool)→(Nat→Value)→World→Prop} {j:Nat} {o:Oper}:∀ (os:List Oper) (i:Nat),Steps P ops Q T F Φ i os→os[j]?=some o→IL P ops Q T F Φ (i+j) o:=by
 induction j with
 | zero =>
  intro os i h ho
  cases os with
  | nil=>simp at ho
  | cons p os=>simp at ho;subst ho;exact h.1
 | succ j ih =>
  intro os i h ho
  cases os with
  | nil=>simp at ho
  | cons p os =>
   simp at ho
   have:=ih os (i+1) h.2 ho
   rw [show i+(j+1)=i+1+j by omega]
   exact this
theorem any_beq {L:List Nat} {t:Nat}:L.any (Nat.beq t)=true↔t ∈ L:=by
 rw [List.any_eq_true]
 constructor
 ·rintro ⟨x,hx,he⟩
  exact (Nat.eq_of_beq_eq_true he) ▸ hx
 ·intro h
  exact ⟨t,h,by simp⟩
theorem wQ {T:List (List Nat)} {F:(Nat→Value)→Act} {Φ:(Nat→Bool)→(Nat→Value)→World→Prop} (hT:mZ T 0 ops.toList=true) (Pp:Nat.ble T.length ops.size=true) (steps:Steps P ops Q T F Φ 0 ops.toList)
  (fin:∀ (l:Nat→Bool) (s:Nat→Value) (w:World),(∀ i,Nat.blt i ops.size=true→l i=true)→Φ l s w→Q .normal (F s) w) :
  ∀ (fuel:Nat) (listed:Array Bool) (l:Nat→Bool) (s:Nat→Value) (w:World),listed.size=ops.size→(∀ i,i<ops.size→listed[i]?=some (l i))→left l ops.size≤fuel →
   (∀ i e o,ops[i]?=some o→e ∈ o.after→Region.binds .any e=true→l i=true→l e.on=true)→Φ l s w→wpAny P .any ops Q fuel listed (F s) w:=by
 have W:∀ i o,ops[i]?=some o→(∀ e ∈ o.after,Region.binds .any e=true→e.on<i)∧∀ t ∈ T.getD i [],∃ e ∈ o.after,Region.binds .any e=true∧(e.on=t∨t ∈ T.getD e.on []):=by
  intro i o ho
  have:=C8 (j:=i) ops.toList 0 hT (by simpa using ho)
  simpa using this
 have up:∀ (l:Nat→Bool),(∀ i e o,ops[i]?=some o→e ∈ o.after→Region.binds .any e=true→l i=true→l e.on=true)→∀ n i,i<n→i<ops.size→l i=true→∀ t ∈ T.getD i [],l t=true:=by
  intro l hc n
  induction n with
  | zero=>intro i hi;omega
  | succ n ih =>
   intro i hi hs hl t ht
   have ho:ops[i]?=some ops[i]:=by simp [hs]
   obtain ⟨e,he,hb,h3⟩:=(W i _ ho).2 t ht
   have h1:=hc i e _ ho he hb hl
   have h2:=(W i _ ho).1 e he hb
   rcases h3 with h3|h3
   ·exact h3 ▸ h1
   ·exact ih e.on tO tO h1 t h3
 have all:∀ (listed:Array Bool) (l:Nat→Bool),listed.size=ops.size→(∀ i,i<ops.size→listed[i]?=some (l i))→Region.ready .any ops listed=[]→∀ n i,i<n→i<ops.size→l i=true:=by
  intro listed l hsz hl hr n
  induction n with
  | zero=>intro i hi;omega
  | succ n ih =>
   intro i hi hs
   cases Pq:l i with
   | true=>rfl
   | false =>
    have ho:ops[i]?=some ops[i]:=by simp [hs]
    have hm:i ∈ Region.ready .any ops listed:=mem_ready.2 ⟨by simp [Array.getD_eq_getD_getElem?,hl i hs,Pq],_,ho,fun e he hb=>by
     have h2:=(W i _ ho).1 e he hb
     have h3:=ih e.on tO tO
     simp [Array.getD_eq_getD_getElem?,hl e.on tO,h3]⟩
    rw [hr] at hm
    cases hm
 intro fuel
 induction fuel with
 | zero =>
  intro listed l s w hsz hl hf hc hΦ
  have h0:=FT l ops.size tO
  refine ⟨?_,fin l s w (fun i hi=>h0 i (by simpa [Nat.blt_eq] using hi)) hΦ⟩
  apply List.eq_nil_iff_forall_not_mem.2
  intro i hi
  obtain ⟨h1,o,ho,_⟩:=mem_ready.1 hi
  have hs:i<ops.size:=(Array.getElem?_eq_some_iff.1 ho).1
  rw [Array.getD_eq_getD_getElem?,hl i hs,h0 i hs] at h1
  cases h1
 | succ fuel ih =>
  intro listed l s w hsz hl hf hc hΦ
  refine ⟨fun hr=>fin l s w (fun i hi=>all listed l hsz hl hr (i+1) i tO (by simpa [Nat.blt_eq] using hi)) hΦ,fun i hi=>?_⟩
  obtain ⟨h1,o,ho,hall⟩:=mem_ready.1 hi
  have hs:i<ops.size:=(Array.getElem?_eq_some_iff.1 ho).1
  have Pq:l i=false:=by
   rw [Array.getD_eq_getD_getElem?,hl i hs] at h1
   simpa using h1
  have hd:∀ e ∈ o.after,Region.binds .any e=true→l e.on=true:=fun e he hb=>by
   have h2:=hall e he hb
   have h3:=(W i o ho).1 e he hb
   rw [Array.getD_eq_getD_getElem?,hl e.on tO] at h2
   simpa using h2
  have hst:=Steps.at (j:=i) ops.toList 0 steps (by simpa using ho)
  rw [Nat.zero_add] at hst
  refine wpOp_step ho fun K' hK=>hst l s w Pq (fun t ht=>?_) (fun j hj=>?_) hΦ K' (fun s' a' w' ea hΦ'=>hK _ _ ?_)
  ·obtain ⟨e,he,hb,h3⟩:=(W i o ho).2 t (any_beq.1 ht)
   rcases h3 with h3|h3
   ·exact h3 ▸ hd e he hb
   ·exact up l hc (e.on+1) e.on tO (by have:=(W i o ho).1 e he hb;omega) (hd e he hb) t h3
  ·have hj2:=any_beq.1 hj
   cases hlj:l j with
   | false=>rfl
   | true =>
    by_cases hjs:j<ops.size
    ·have:=up l hc (j+1) j tO hjs hlj i hj2
     rw [Pq] at this
     cases this
    ·have h5:=Nat.le_of_ble_eq_true Pp
     simp [List.getD_eq_getElem?_getD,List.getElem?_eq_none (show T.length≤j by omega)] at hj2
  ·subst ea
   refine ih _ (upd l i true) s' w' (by simpa using hsz) (fun k hk=>?_) (by have:=IK l i ops.size hs Pq;omega) (fun k e o2 ho2 he hb hk=>?_) hΦ'
   ·rw [Array.getElem?_setIfInBounds,ae,hl k hk]
    by_cases e:i=k
    ·subst e;simp [hsz,hs]
    ·have e2:¬ k=i:=fun x=>e x.symm
     simp [e,e2]
   ·rw [ae] at hk ⊢
    by_cases e1:e.on=i
    ·simp [e1]
    ·rw [if_neg e1]
     by_cases e2:k=i
     ·subst e2
      rw [ho] at ho2
      obtain rfl:=Option.some.inj ho2
      exact hd e he hb
     ·rw [if_neg e2] at hk
      exact hc k e o2 ho2 he hb hk
theorem bI {id:Nat} {a:Act} {w:World} (T:List (List Nat)) (ds:List Nat) (Φ:(Nat→Bool)→(Nat→Value)→World→Prop) {F:(Nat→Value)→Act} (hm:P.follows .mixedOrders=true) (hT:mZ T 0 ops.toList=true) (Pp:Nat.ble T.length ops.size=true)
  (hF:∀ s,fill a ds s=F s) (h0:∀ s,Φ (fun _=>false) s w.drew) (steps:Steps P ops Q T F Φ 0 ops.toList)
  (fin:∀ (l:Nat→Bool) (s:Nat→Value) (w:World),(∀ i,Nat.blt i ops.size=true→l i=true)→Φ l s w→Q .normal (F s) w):(Code.region id ops true).wp P Q a w:=by
 refine wp_region_any hm ?_
 have:=wQ hT Pp steps fin ops.size (Array.replicate ops.size false) (fun _=>false) (fun k=>a.tmps.getD k undef) w.drew (by simp) (fun i hi=>by simp [hi]) (by
  generalize ops.size=n
  induction n with
  | zero=>simp [left]
  | succ n ih=>simp [left];exact ih) (fun i e o _ _ _ h=>by cases h) (h0 _)
 rw [← hF,wP] at this
 exact this
end
end
section
structure Ch where
 cap:Int
 sent:Int
 got:Int
 fin:Int
 cells:List C3
 words:List Int
structure Ha where
 pos:Int
 code:Int
 elem:Int
 cell:Int
 seen:Int
 wait:Int
 fin:Int
 come:Int
 grow:Int
 mine:Int
 nxt:Int
 beg:Int
 reply:Int
 out:Int
def C3.zero:C3:=⟨0,0,0⟩
def Ch.zero:Ch:=⟨0,0,0,0,[],[]⟩
def Ha.zero:Ha:=⟨0,0,0,0,0,0,0,0,0,0,0,0,0,0⟩
def fD (m:Nat) (c:C3):Bool:=OV c && decide (c.t≤m)
def fq (c:Ch):Bool:=dm c.cap 0 4 && (dm c.sent 0 40 && (dm c.got 0 40 && (dm c.fin 0 40 && (decide (c.cells.length=40) && decide (c.words.length≤80)))))
def aK (c:Ch):Bool:=fq c && (c.cells.all (fD c.words.length) && c.words.all (fun x=>dm x 0 2))
def fE (cap:Int):Ch:=if dm cap 0 4 then ⟨cap,0,0,cap,List.replicate 40 C3.zero,[]⟩ else Ch.zero
def iZ (st:Int):Nat→List C3→List Int
 | _,[]=>[]
 | k,c :: cs=>if c.s == st then (k:Int) :: iZ st (k+1) cs else iZ st (k+1) cs
def vz (c:Ch) (st:Int):List Int:=iZ st 0 c.cells
def keptIn (c:Ch):List Int:=if aK c then (vz c 2).map fun i=>(c.cells.getD i.toNat C3.zero).e else []
def iR (c:Ch) (st:Int):List Int:=if aK c then vz c st else []
def kF (c:Ch) (w:Int):Bool:=dm w 1 c.words.length
def eF (c:Ch) (w:Int):Int:=c.words.getD (w - 1).toNat 0
def gL (c:Ch) (w:Int):Int:=if aK c && kF c w then eF c w else -1
def fo (c:Ch) (w word:Int):Bool:=kF c w && (eF c w == 0 && dm word 1 2)
def dN (c:Ch) (w word:Int):Ch:=if fo c w word then { c with words:=c.words.set (w - 1).toNat word } else c
end
section
def dO (k e:Int):Bool:=(k == 1 && dm e 0 999) || (k == 2 && e == 0)
def ng (k e r:Int):Bool:=dO k e && (dm r 1 4 && ((k == 1 || r != 1) && (k == 2 || r != 2)))
def qW (k e:Int):Bool:=k == 0 && e == 0
def qo (h:Ha):Bool:=dm h.pos 0 25 && (if h.pos == 0 then qW h.code h.elem else dO h.code h.elem)
def wR (h:Ha):Bool:=dm h.cell 0 39 && (dm h.grow 0 39 && (dm h.seen 0 10 && (dm h.wait 0 80 && dm h.mine 0 80)))
def Fe (h:Ha):Bool:=dm h.fin 0 40 && (dm h.come 0 40 && (dm h.nxt 0 2 && (dm h.beg 0 20000 && (dm h.reply 0 4 && dm h.out 0 999))))
def bW (h:Ha):Bool:=qo h && (wR h && Fe h)
def aP (r o:Int):Ha:=⟨0,0,0,0,0,0,0,0,0,0,0,0,r,o⟩
def begun (k e b:Int):Ha:=⟨if k == 2 then 9 else 1,k,e,0,0,0,0,0,0,0,0,b,0,0⟩
def called (h:Ha) (k e:Int):Ha × Int:=if bW h then (if h.pos == 0 then (if dO k e then (begun k e 0,0) else (h,2)) else (h,1)) else (Ha.zero,3)
end
section
open Go.RowKit
theorem NA {g b:Nat} {w w1:World} (h:w.grownBy w1 (some g)) (hb:b<w.heap.size) (hn:b≠g) (o:Nat):w1.cell? ⟨b,o,none⟩=w.cell? ⟨b,o,none⟩:=World.cell?_of_block (h.block b hb (by simpa using hn))
theorem NB {g b:Nat} {w w1:World} (h:w.grownBy w1 (some g)) (hb:b<w.heap.size) (hn:b≠g) (o:Nat):w1.frozen? ⟨b,o,none⟩=w.frozen? ⟨b,o,none⟩:=World.frozen?_of_block (h.block b hb (by simpa using hn))
def gX (l:List Int) (i _j:Nat):Value:=.int .i64 (l.getD i 0)
abbrev eY (w:World) (B:Nat) (a:Option Addr) (cs:List C3):Prop:=Seg w B a cs.length 3 (ib cs)
abbrev eQ (w:World) (B:Nat) (a:Option Addr) (l:List Int):Prop:=Seg w B a l.length 1 (gX l)
def iJ (cs:List C3):List Value:=cs.flatMap fun c=>[.int .i64 c.s,.int .i64 c.e,.int .i64 c.t]
theorem iT (cs:List C3):(iJ cs).length=cs.length*3:=by
 induction cs with
 | nil=>rfl
 | cons c cs ih=>simp [iJ] at *;omega
theorem iD:∀ (cs:List C3) (i j:Nat),i<cs.length→j<3→(iJ cs)[i*3+j]?=some (ib cs i j)
 | [],i,j,hi,_=>by simp at hi
 | c :: cs,0,j,_,hj=>by
  have:j=0∨j=1∨j=2:=by omega
  rcases this with rfl|rfl|rfl <;> simp [iJ,ib,C3.val]
 | c :: cs,i+1,j,hi,hj=>by
  have h:=iD cs i j (by simpa using hi) hj
  have e:(i+1)*3+j=(i*3+j)+3:=by omega
  rw [e]
  simpa [iJ,ib] using h
theorem wS (cs:List C3):∀ u ∈ iJ cs,u.oneCell'=true:=by
 intro u hu
 simp only [iJ,List.mem_flatMap] at hu
 obtain ⟨c,_,hc⟩:=hu
 simp at hc
 rcases hc with rfl|rfl|rfl <;> rfl
def ints (l:List Int):List Value:=l.map (Value.int .i64)
theorem zV (l:List Int):∀ u ∈ ints l,u.oneCell'=true:=by
 intro u hu
 obtain ⟨x,_,rfl⟩:=List.mem_map.1 hu
 rfl
theorem iE {w W w1:World} {lo:Nat} {row:Option Nat} (h:Below lo w W) (hg:W.grownBy w1 row) (hB:lo≤W.heap.size) (hr:∀ k,row=some k→lo≤k):Below lo w w1:=h.grown hg hB hr
abbrev ag (w:World) (lo:Nat) (v:Value) (cs:List C3):Prop:=w.ownsRow lo 93 3 v cs.length (iJ cs)
abbrev ai (w:World) (lo:Nat) (v:Value) (l:List Int):Prop:=w.ownsRow lo 2 1 v l.length (ints l)
theorem ag.seg {w:World} {lo:Nat} {v:Value} {cs:List C3} (h:ag w lo v cs):∃ (a:Option Addr) (cap:Nat),v=.slice a cs.length cap∧Seg w w.heap.size a cs.length 3 (ib cs):=by
 rcases h.2 with ⟨rfl,h0⟩|⟨g,cap,cur,rfl,_,hg,_⟩
 ·exact ⟨none,0,by rw [h0],.inl h0⟩
 ·refine ⟨_,cap,rfl,.inr ⟨g,0,rfl,(Array.getElem?_eq_some_iff.1 hg).1,fun i j hi hj=>?_⟩⟩
  have:=h.cells (g:=g) rfl (i*3+j) _ (iD cs i j hi hj)
  rw [← this]
  congr 1
  by_cases e:i*3+j=0 <;> simp [Addr.add,e] <;> omega
theorem ai.seg {w:World} {lo:Nat} {v:Value} {l:List Int} (h:ai w lo v l):∃ (a:Option Addr) (cap:Nat),v=.slice a l.length cap∧Seg w w.heap.size a l.length 1 (gX l):=by
 rcases h.2 with ⟨rfl,h0⟩|⟨g,cap,cur,rfl,_,hg,_⟩
 ·exact ⟨none,0,by rw [h0],.inl h0⟩
 ·refine ⟨_,cap,rfl,.inr ⟨g,0,rfl,(Array.getElem?_eq_some_iff.1 hg).1,fun i j hi hj=>?_⟩⟩
  have hj0:j=0:=by omega
  subst hj0
  have:=h.cells (g:=g) rfl i (gX l i 0) (by simp [ints,gX,List.getD,hi])
  rw [← this]
  congr 1
  by_cases e:i=0 <;> simp [Addr.add,e] <;> omega
theorem ai.snoc {w:World} {lo:Nat} {v:Value} {l:List Int} {x:Int} (h:w.ownsRow lo 2 1 v (l.length+1) (ints l ++ [.int .i64 x])):ai w lo v (l ++ [x]):=by
 have e:ints (l ++ [x])=ints l ++ [.int .i64 x]:=by simp [ints]
 unfold ai
 rw [e,List.length_append]
 exact h
theorem Seg.newsC {w:World} {B b o:Nat} {cs:List C3} (h:Seg w B (some ⟨b,o,none⟩) cs.length 3 (ib cs)):∀ j u,(iJ cs)[j]?=some u→w.cell? ((⟨b,o,none⟩:Addr).add j)=some u:=by
 intro j u hu
 have hj:j<cs.length*3:=by rw [← iT];exact (List.getElem?_eq_some_iff.1 hu).1
 rcases h with h0|⟨b',o',e,_,hc⟩
 ·omega
 ·simp at e
  obtain ⟨rfl,rfl⟩:=e
  have e2:j=j / 3*3+j % 3:=by omega
  have h1:=iD cs (j / 3) (j % 3) tO tO
  rw [← e2] at h1
  have h2:=hc (j / 3) (j % 3) tO tO
  rw [h1] at hu
  simp at hu
  rw [← hu,← h2]
  congr 1
  by_cases e:j=0 <;> simp [Addr.add,e] <;> omega
theorem Seg.newsI {w:World} {B b o:Nat} {l:List Int} (h:Seg w B (some ⟨b,o,none⟩) l.length 1 (gX l)):∀ j u,(ints l)[j]?=some u→w.cell? ((⟨b,o,none⟩:Addr).add j)=some u:=by
 intro j u hu
 have hj:j<l.length:=by have:=(List.getElem?_eq_some_iff.1 hu).1;simpa [ints] using this
 rcases h with h0|⟨b',o',e,_,hc⟩
 ·omega
 ·simp at e
  obtain ⟨rfl,rfl⟩:=e
  have h2:=hc j 0 hj tO
  have:u=gX l j 0:=by simp [ints,hj] at hu;simp [gX,List.getD,hj,← hu]
  rw [this,← h2]
  congr 1
  by_cases e:j=0 <;> simp [Addr.add,e]
theorem mH (w:World) (lo:Nat) (e:TypeId) (k:Nat) (h:lo≤w.heap.size):(w.alloc (.cells #[] e)).ownsRow lo e k (.slice (some ⟨w.heap.size,0,none⟩) 0 0) 0 [] :=
 World.ownsRow_made w #[] 0 h (by simp) (by simp)
theorem gu (w:World) (lo:Nat) (e:TypeId) (k n:Nat) (hn:n=w.heap.size) (h:lo≤w.heap.size):(w.alloc (.cells #[] e)).ownsRow lo e k (.slice (some ⟨n,0,none⟩) 0 0) 0 []:=by
 subst hn;exact mH w lo e k h
theorem gQ {w:World} {p:Addr} {u:Value} {o:Obj} (h:w.cell? p=some u):(w.alloc o).cell? p=some u:=by
 rw [World.cell?_alloc_lt _ _ _ (World.block_lt_of_cell? w p h)];exact h
theorem av {w:World} {lo lo':Nat} {e:TypeId} {k n:Nat} {v:Value} {xs:List Value} (h:w.ownsRow lo e k v n xs) (hl:lo'≤lo):w.ownsRow lo' e k v n xs:=by
 refine ⟨h.1,?_⟩
 rcases h.2 with h|⟨g,cap,cur,h1,h2,h3⟩
 ·exact .inl h
 ·exact .inr ⟨g,cap,cur,h1,Nat.le_trans hl h2,h3⟩
theorem own_ne {w:World} {lo:Nat} {e:TypeId} {k n:Nat} {v:Value} {xs:List Value} (h:w.ownsRow lo e k v n xs) {b:Nat} (hb:b<lo):v.ownBlock≠some b:=fun he=>by have:=(h.lt b he).1;omega
theorem own_below {w w1:World} {lo:Nat} {e:TypeId} {k n:Nat} {v:Value} {xs:List Value} (h:w.ownsRow lo e k v n xs) (hb:Below w.heap.size w w1):w1.ownsRow lo e k v n xs :=
 h.kept (row:=none) ⟨hb.os,hb.tape,hb.output,hb.size,fun i hi _=>hb.block i hi⟩ (by cases v.ownBlock <;> simp)
theorem zR {w:World} {lo:Nat} {e:TypeId} {k n:Nat} {v:Value} {xs:List Value} (h:w.ownsRow lo e k v n xs) (o:Obj):(w.alloc o).ownsRow lo e k v n xs:=World.ownsRow.alloc h o
theorem vv {w:World} {lo:Nat} {e:TypeId} {k n:Nat} {v:Value} {xs:List Value} (h:w.ownsRow lo e k v n xs):w.drew.ownsRow lo e k v n xs:=h
theorem aS {w:World} {lo:Nat} {e:TypeId} {k n:Nat} {v:Value} {xs:List Value} (h:w.ownsRow lo e k v n xs) {p:Addr} (hp:v.ownBlock≠some p.block) (u:Value):(w.setCell p u).ownsRow lo e k v n xs :=
 h.kept (row:=some p.block) ⟨rfl,rfl,rfl,by simp [World.setCell],fun i _ hn=>Below.heap_setCell w p u i (fun e=>hn (by rw [e]))⟩ (.inr hp)
theorem iU {w:World} {lo:Nat} {e:TypeId} {k g n cap:Nat} {xs:List Value} (h:w.ownsRow lo e k (.slice (some ⟨g,0,none⟩) n cap) n xs) (i:Nat) (hi:i<xs.length) (u:Value) :
  (w.setCell ⟨g,i,none⟩ u).ownsRow lo e k (.slice (some ⟨g,0,none⟩) n cap) n (xs.set i u):=by
 refine ⟨by simpa using h.1,?_⟩
 rcases h.2 with ⟨h0,_⟩|⟨g',cap',cur,h1,h2,h3,h4,h5,h6,h7⟩
 ·simp at h0
 ·simp at h1
  obtain ⟨rfl,rfl⟩:=h1
  refine .inr ⟨g,cap,cur.setIfInBounds i u,rfl,h2,by simp [World.setCell,Array.getElem?_modify,h3],h4,h5,by simpa using h6,?_⟩
  rw [Array.toList_setIfInBounds,← h7,List.take_set]
theorem ints_set (l:List Int) (i:Nat) (x:Int):ints (l.set i x)=(ints l).set i (.int .i64 x):=by simp [ints,List.map_set]
theorem sV (l:List Int):(ints l).length=l.length:=by simp [ints]
theorem qX:∀ (cs:List C3) (i:Nat) (c:C3),iJ (cs.set i c)=(((iJ cs).set (i*3) (.int .i64 c.s)).set (i*3+1) (.int .i64 c.e)).set (i*3+2) (.int .i64 c.t)
 | [],i,c=>by simp [iJ]
 | d :: cs,0,c=>by simp [iJ]
 | d :: cs,i+1,c=>by
  have h:=qX cs i c
  have e0:(i+1)*3=i*3+3:=by omega
  rw [e0]
  simpa [iJ] using h
theorem ku:(Tryz.prog.info? 2).map (fun i=>(i.zero,i.size,i.bytes))=some (some (.int .i64 0),1,8):=by kernel_rfl
abbrev Gr (g:Nat) (w w':World):Prop:=w.grownBy w' (some g)
theorem gR (g:Nat) (w:World):Gr g w w:=⟨rfl,rfl,rfl,Nat.le_refl _,fun _ _ _=>rfl⟩
theorem gD {g:Nat} {w W:World} (h:Gr g w W):Gr g w W.drew:=⟨h.os,h.tape,h.output,h.size,h.block⟩
theorem Tq {g:Nat} {w W:World} (h:Gr g w W) (n:Nat):Gr g w (W.drewN n):=⟨h.os,h.tape,h.output,h.size,h.block⟩
theorem gA {g:Nat} {w W:World} {o:Obj} (h:Gr g w W):Gr g w (W.alloc o):=⟨h.os,h.tape,h.output,Nat.le_trans h.size (by simp),fun k hk hn=>(Below.heap_alloc W o k (Nat.lt_of_lt_of_le hk h.size)).trans (h.block k hk hn)⟩
theorem gS {g:Nat} {w W:World} {p:Addr} {u:Value} (h:Gr g w W) (hp:p.block=g∨w.heap.size≤p.block):Gr g w (W.setCell p u) :=
 ⟨h.os,h.tape,h.output,by simpa [World.setCell] using h.size,fun k hk hn=>(Below.heap_setCell W p u k (by
  rintro rfl
  rcases hp with hp|hp
  ·exact hn (by rw [hp])
  ·omega)).trans (h.block k hk hn)⟩
theorem gT {g:Nat} {w W w1:World} (h:Gr g w W) (k:Gr g W w1):Gr g w w1 :=
 ⟨k.os.trans h.os,k.tape.trans h.tape,k.output.trans h.output,Nat.le_trans h.size k.size,fun i hi hn=>(k.block i (Nat.lt_of_lt_of_le hi h.size) hn).trans (h.block i hi hn)⟩
theorem Tt {B:Nat} {a w:World} (h:Below B a w) (n:Nat):Below B a (w.drewN n):=⟨h.os,h.tape,h.output,h.size,h.block⟩
theorem bG {g:Nat} {w W w1:World} (h:Below w.heap.size w W) (k:Gr g W w1) (hg:w.heap.size≤g):Below w.heap.size w w1 :=
 ⟨k.os.trans h.os,k.tape.trans h.tape,k.output.trans h.output,Nat.le_trans h.size k.size,fun i hi=>(k.block i (Nat.lt_of_lt_of_le hi h.size) (by simp;omega)).trans (h.block i hi)⟩
theorem pO {g:Nat} {w w1:World} (h:Below w.heap.size w w1):Gr g w w1:=⟨h.os,h.tape,h.output,h.size,fun i hi _=>h.block i hi⟩
theorem zO {w w0 W:World} {lo Ps:Nat} {e e0:TypeId} {k k0 m m0:Nat} {v:Value} {xs Pt:List Value} (h:w.ownsRow lo e k v m xs) (H0:w0.ownsRow Ps e0 k0 v m0 Pt) (r:w.ownsRow lo e k v m xs→w0.ownsRow Ps e0 k0 v m0 Pt→W.ownsRow lo e k v m xs:=by (intro zh zH;repeat first|with_reducible exact zh|with_reducible refine zR ?_ _|with_reducible refine vv ?_|((with_reducible first|refine aS ?_ ?_ _|refine gp ?_ ?_);rotate_left;focus first|(refine own_ne zH ?_;(try dsimp only);omega)|(refine gI zH ?_;(try dsimp only);omega)))):W.ownsRow lo e k v m xs:=r h H0
theorem zP {w w0 W:World} {lo Ps:Nat} {e e0:TypeId} {k k0 m m0:Nat} {v:Value} {xs Pt:List Value} {p q:Nat} (h:w.ownsRow lo e k v m xs) (H0:w0.ownsRow Ps e0 k0 v m0 Pt) (f:∀ j,p≤j→j<q→v.ownBlock≠some j) (r:w.ownsRow lo e k v m xs→w0.ownsRow Ps e0 k0 v m0 Pt→(∀ j,p≤j→j<q→v.ownBlock≠some j)→W.ownsRow lo e k v m xs:=by (intro zh zH zf;repeat first|with_reducible exact zh|with_reducible refine zR ?_ _|with_reducible refine vv ?_|((with_reducible first|refine aS ?_ ?_ _|refine gp ?_ ?_);rotate_left;focus first|(refine own_ne zH ?_;(try dsimp only);omega)|(refine gI zH ?_;(try dsimp only);omega)|exact zf _ (by (try dsimp only) <;> omega) (by (try dsimp only) <;> omega)))):W.ownsRow lo e k v m xs:=r h H0 f
theorem mT {P:Program} {ops:Array Oper} {Q:Exit→Act→World→Prop} {md:Region.Mode} {S:World→Prop} {i:Nat} {oi:Oper} {v:Value} {fuel:Nat} {listed:Array Bool} {a:Act} {w:World} (hi:ops[i]?=some oi)
  (h:wpAnyH P md ops Q S fuel (listed.setIfInBounds i true) (a.put oi.dst v) w) (g:Region.wanted oi (yielded ops a.tmps)=true:=by rfl) (y:∀ w,S w→(execOp a.eval oi).run P w=.ok (.value v) w:=by (intro w' hSw;(try dsimp only at hSw);go_simp;(try with_reducible rfl)))
  (hs:Region.noSelect ops=true:=by kernel_rfl) (hf:Region.free md ops listed i=true:=by kernel_rfl) (hr:(Region.ready md ops listed).contains i=true:=by kernel_rfl) (hS:S w:=by assumption)
  (hQ:∀ c a w,Q (.panic c) (a.put oi.dst v) w→Q (.panic c) a w:=by exact fun _ _ _ h=>h):wpAnyH P md ops Q S (fuel+1) listed a w:=wpAnyH_take hi hs hf hr hQ (.inl ⟨g,y⟩) hS h
theorem mS {P:Program} {ops:Array Oper} {Q:Exit→Act→World→Prop} {md:Region.Mode} {S:World→Prop} {i:Nat} {oi:Oper} {fuel:Nat} {listed:Array Bool} {a:Act} {w:World} (hi:ops[i]?=some oi)
  (h:wpAnyH P md ops Q S fuel (listed.setIfInBounds i true) (a.put oi.dst undef) w) (g:Region.wanted oi (yielded ops a.tmps)=false:=by rfl)
  (hs:Region.noSelect ops=true:=by kernel_rfl) (hf:Region.free md ops listed i=true:=by kernel_rfl) (hr:(Region.ready md ops listed).contains i=true:=by kernel_rfl) (hS:S w:=by assumption)
  (hQ:∀ c a w,Q (.panic c) (a.put oi.dst undef) w→Q (.panic c) a w:=by exact fun _ _ _ h=>h):wpAnyH P md ops Q S (fuel+1) listed a w:=wpAnyH_take hi hs hf hr hQ (.inr ⟨g,rfl⟩) hS h
end
section
open Go.RowKit
def Lie (w:World) (b n k:Nat) (f:Nat→Nat→Value):Prop :=
 ∃ (c:Array Value) (t:TypeId),w.heap[b]?=some (.cells c t (0,0))∧n*k≤c.size∧∀ i j,i<n→j<k→c[i*k+j]?=some (f i j)
namespace Lie
variable {w w':World} {b n k:Nat} {f g:Nat→Nat→Value}
theorem cell (h:Lie w b n k f) {i j:Nat} (hi:i<n) (hj:j<k):w.cell? ⟨b,i*k+j,none⟩=some (f i j):=by
 obtain ⟨c,t,hb,_,hc⟩:=h
 simp [World.cell?,hb,hc i j hi hj]
theorem frozen (h:Lie w b n k f) (o:Nat):w.frozen? ⟨b,o,none⟩=false:=by
 obtain ⟨c,t,hb,_,_⟩:=h
 simp [World.frozen?,hb]
theorem lt (h:Lie w b n k f):b<w.heap.size:=by
 obtain ⟨c,t,hb,_,_⟩:=h
 exact (Array.getElem?_eq_some_iff.1 hb).1
theorem congr (h:Lie w b n k f) (e:∀ i j,i<n→j<k→f i j=g i j):Lie w b n k g:=by
 obtain ⟨c,t,hb,hn,hc⟩:=h
 exact ⟨c,t,hb,hn,fun i j hi hj=>by rw [hc i j hi hj,e i j hi hj]⟩
theorem of_block (h:Lie w b n k f) (e:w'.heap[b]?=w.heap[b]?):Lie w' b n k f:=by
 obtain ⟨c,t,hb,hn,hc⟩:=h
 exact ⟨c,t,e.trans hb,hn,hc⟩
theorem below {B:Nat} (h:Lie w b n k f) (hb:Below B w w') (hB:b<B):Lie w' b n k f:=h.of_block (hb.block b hB)
theorem set (h:Lie w b n k f) {i j:Nat} (hi:i<n) (hj:j<k) (v:Value):Lie (w.setCell ⟨b,i*k+j,none⟩ v) b n k (fun i' j'=>if i'=i∧j'=j then v else f i' j'):=by
 obtain ⟨c,t,hb,hn,hc⟩:=h
 refine ⟨c.setIfInBounds (i*k+j) v,t,?_,by simpa using hn,fun i' j' hi' hj'=>?_⟩
 ·simp [World.setCell,Array.getElem?_modify,hb]
 ·rw [Array.getElem?_setIfInBounds]
  by_cases e:i*k+j=i'*k+j'
  ·obtain ⟨rfl,rfl⟩:=Row.idx hj hj' e
   have hlt:i*k+j<c.size:=(Array.getElem?_eq_some_iff.1 (hc i j hi hj)).1
   simp [hlt]
  ·rw [if_neg e]
   show c[i'*k+j']?=some (if i'=i∧j'=j then v else f i' j')
   rw [if_neg (fun h=>e (by rw [h.1,h.2]))]
   exact hc i' j' hi' hj'
theorem set1 (h:Lie w b n 1 f) {i:Nat} (hi:i<n) (v:Value) :
  Lie (w.setCell ⟨b,i,none⟩ v) b n 1 (fun i' j'=>if i'=i then v else f i' j'):=by
 have h1:=h.set hi (j:=0) tO v
 simp only [Nat.mul_one,Nat.add_zero] at h1
 refine h1.congr fun i' j' _ hj=>?_
 have:j'=0:=by omega
 subst this
 by_cases e:i'=i <;> simp [e]
theorem seg (h:Lie w b n k f):Seg w w.heap.size (some ⟨b,0,none⟩) n k f:=.inr ⟨b,0,rfl,h.lt,fun i j hi hj=>by simpa using h.cell hi hj⟩
end Lie
theorem Row.lie {w:World} {b:Nat} {t:TypeId} {n k:Nat} {f:Nat→Nat→Value} (h:Row w b t n k f):Lie w b n k f:=by
 obtain ⟨c,hb,hn,hc⟩:=h
 exact ⟨c,t,hb,Nat.le_of_eq hn.symm,hc⟩
def New (w:World) (lo:Nat) (v:Value) (n k:Nat) (f:Nat→Nat→Value):Prop :=
 (v=.slice none 0 0∧n=0)∨∃ g cap,v=.slice (some ⟨g,0,none⟩) n cap∧lo≤g∧Lie w g n k f
abbrev IM (w:World) (lo:Nat) (v:Value) (l:List Int):Prop:=New w lo v l.length 1 (gX l)
abbrev NR (w:World) (lo:Nat) (v:Value) (cs:List C3):Prop:=New w lo v cs.length 3 (ib cs)
namespace New
variable {w w1:World} {lo n k:Nat} {v:Value} {f:Nat→Nat→Value}
theorem below (h:New w lo v n k f) (hb:Below w.heap.size w w1):New w1 lo v n k f:=by
 rcases h with h|⟨g,cap,h1,h2,h3⟩
 ·exact .inl h
 ·exact .inr ⟨g,cap,h1,h2,h3.below hb h3.lt⟩
theorem more {lo':Nat} (h:New w lo v n k f) (hl:lo'≤lo):New w lo' v n k f:=by
 rcases h with h|⟨g,cap,h1,h2,h3⟩
 ·exact .inl h
 ·exact .inr ⟨g,cap,h1,Nat.le_trans hl h2,h3⟩
theorem kept {row:Option Nat} (h:New w lo v n k f) (hg:w.grownBy w1 row) (hn:row=none∨v.ownBlock≠row):New w1 lo v n k f:=by
 rcases h with h|⟨g,cap,h1,h2,h3⟩
 ·exact .inl h
 ·refine .inr ⟨g,cap,h1,h2,h3.of_block (hg.block g h3.lt fun e=>?_)⟩
  subst h1
  rcases hn with rfl|hn
  ·cases e
  ·exact hn (by rw [← e];rfl)
theorem seg (h:New w lo v n k f):∃ a cap,v=.slice a n cap∧Seg w w.heap.size a n k f:=by
 rcases h with ⟨rfl,rfl⟩|⟨g,cap,rfl,_,h3⟩
 ·exact ⟨none,0,rfl,.inl rfl⟩
 ·exact ⟨_,cap,rfl,h3.seg⟩
theorem lt (h:New w lo v n k f) {b:Nat} (hb:v.ownBlock=some b):lo≤b∧b<w.heap.size:=by
 rcases h with ⟨rfl,_⟩|⟨g,cap,rfl,h2,h3⟩
 ·cases hb
 ·simp [Value.ownBlock] at hb
  subst hb
  exact ⟨h2,h3.lt⟩
end New
theorem ag.new {w:World} {lo:Nat} {v:Value} {cs:List C3} (h:ag w lo v cs):NR w lo v cs:=by
 rcases h.2 with ⟨h1,h0⟩|⟨g,cap,cur,rfl,hl,hg,h4,h5,h6,h7⟩
 ·exact .inl ⟨h1,h0⟩
 ·refine .inr ⟨g,cap,rfl,hl,cur,_,hg,?_,fun i j hi hj=>?_⟩
  ·have e:=congrArg List.length h7
   rw [List.length_take,iT] at e
   simp at e;omega
  ·have:=h.cells (g:=g) rfl (i*3+j) _ (iD cs i j hi hj)
   have e2:(⟨g,0,none⟩:Addr).add (i*3+j)=⟨g,i*3+j,none⟩:=by generalize i*3+j=m;by_cases e:m=0 <;> simp [Addr.add,e]
   rw [e2] at this
   simpa [World.cell?,hg] using this
theorem ai.new {w:World} {lo:Nat} {v:Value} {l:List Int} (h:ai w lo v l):IM w lo v l:=by
 rcases h.2 with ⟨h1,h0⟩|⟨g,cap,cur,rfl,hl,hg,h4,h5,h6,h7⟩
 ·exact .inl ⟨h1,h0⟩
 ·refine .inr ⟨g,cap,rfl,hl,cur,_,hg,?_,fun i j hi hj=>?_⟩
  ·have e:=congrArg List.length h7
   rw [List.length_take,sV] at e
   simp at e;omega
  ·have hj0:j=0:=by omega
   subst hj0
   have:=h.cells (g:=g) rfl i (gX l i 0) (by simp [ints,gX,List.getD,hi])
   have e2:(⟨g,0,none⟩:Addr).add i=⟨g,i,none⟩:=by by_cases e:i=0 <;> simp [Addr.add,e]
   rw [e2] at this
   simpa [World.cell?,hg] using this
def ik (a b:Option Nat) (w w':World):Prop :=
 w'.os=w.os∧w'.tape=w.tape∧w'.output=w.output∧w.heap.size≤w'.heap.size∧∀ i,i<w.heap.size→some i≠a→some i≠b→w'.heap[i]?=w.heap[i]?
theorem dx {a b:Option Nat} {w W:World} (h:Below w.heap.size w W):ik a b w W:=⟨h.os,h.tape,h.output,h.size,fun i hi _ _=>h.block i hi⟩
theorem fu {a b:Option Nat} {w W w1:World} (h:ik a b w W) (k:ik a b W w1):ik a b w w1 :=
 ⟨k.1.trans h.1,k.2.1.trans h.2.1,k.2.2.1.trans h.2.2.1,Nat.le_trans h.2.2.2.1 k.2.2.2.1,fun i hi h1 h2=>(k.2.2.2.2 i (Nat.lt_of_lt_of_le hi h.2.2.2.1) h1 h2).trans (h.2.2.2.2 i hi h1 h2)⟩
theorem lW {a b:Option Nat} {w W:World} (h:w.grownBy W a):ik a b w W:=⟨h.os,h.tape,h.output,h.size,fun i hi h1 _=>h.block i hi h1⟩
theorem Rf {a b:Option Nat} {w W:World} (h:w.grownBy W b):ik a b w W:=⟨h.os,h.tape,h.output,h.size,fun i hi _ h1=>h.block i hi h1⟩
theorem FU {a b:Option Nat} {w W w1:World} (h:Below w.heap.size w W) (k:ik a b W w1) (ha:∀ i,a=some i→w.heap.size≤i) (hb:∀ i,b=some i→w.heap.size≤i):Below w.heap.size w w1 :=
 ⟨k.1.trans h.os,k.2.1.trans h.tape,k.2.2.1.trans h.output,Nat.le_trans h.size k.2.2.2.1,fun i hi=>(k.2.2.2.2 i (Nat.lt_of_lt_of_le hi h.size) (fun e=>by have:=ha i e.symm;omega) (fun e=>by have:=hb i e.symm;omega)).trans (h.block i hi)⟩
theorem NS {r:Option Nat} {b:Nat} {w w1:World} (h:w.grownBy w1 r) (hb:b<w.heap.size) (hn:some b≠r) (o:Nat):w1.cell? ⟨b,o,none⟩=w.cell? ⟨b,o,none⟩:=World.cell?_of_block (h.block b hb hn)
theorem NT {r:Option Nat} {b:Nat} {w w1:World} (h:w.grownBy w1 r) (hb:b<w.heap.size) (hn:some b≠r) (o:Nat):w1.frozen? ⟨b,o,none⟩=w.frozen? ⟨b,o,none⟩:=World.frozen?_of_block (h.block b hb hn)
theorem FV {w W w1:World} {r:Option Nat} (h:Below w.heap.size w W) (k:W.grownBy w1 r):w.grownBy w1 r :=
 ⟨k.os.trans h.os,k.tape.trans h.tape,k.output.trans h.output,Nat.le_trans h.size k.size,fun i hi hn=>(k.block i (Nat.lt_of_lt_of_le hi h.size) hn).trans (h.block i hi)⟩
end
section
open Go.RowKit
def aa (h:Ha):Array Value:=#[.int .i64 h.pos,.int .i64 h.code,.int .i64 h.elem,.int .i64 h.cell,.int .i64 h.seen,.int .i64 h.wait,.int .i64 h.fin,.int .i64 h.come,.int .i64 h.grow,.int .i64 h.mine,.int .i64 h.nxt,.int .i64 h.beg,.int .i64 h.reply,.int .i64 h.out]
theorem Pv (h:Ha):(aa h=#[])=False:=by simp [aa]
theorem oF (h:Ha):(aa h).size=14:=rfl
theorem xR (h:Ha):(aa h)[0]?=some (.int .i64 h.pos):=rfl
theorem Li (h:Ha) (x:Int):(aa h).setIfInBounds 0 (.int .i64 x)=aa { h with pos:=x }:=rfl
theorem Lj (h:Ha):(aa h)[1]?=some (.int .i64 h.code):=rfl
theorem Ll (h:Ha) (x:Int):(aa h).setIfInBounds 1 (.int .i64 x)=aa { h with code:=x }:=rfl
theorem Lm (h:Ha):(aa h)[2]?=some (.int .i64 h.elem):=rfl
theorem Lp (h:Ha) (x:Int):(aa h).setIfInBounds 2 (.int .i64 x)=aa { h with elem:=x }:=rfl
theorem Lr (h:Ha):(aa h)[3]?=some (.int .i64 h.cell):=rfl
theorem Ls (h:Ha) (x:Int):(aa h).setIfInBounds 3 (.int .i64 x)=aa { h with cell:=x }:=rfl
theorem Lu (h:Ha):(aa h)[4]?=some (.int .i64 h.seen):=rfl
theorem Lv (h:Ha) (x:Int):(aa h).setIfInBounds 4 (.int .i64 x)=aa { h with seen:=x }:=rfl
theorem Lx (h:Ha):(aa h)[5]?=some (.int .i64 h.wait):=rfl
theorem L6 (h:Ha) (x:Int):(aa h).setIfInBounds 5 (.int .i64 x)=aa { h with wait:=x }:=rfl
theorem L8 (h:Ha):(aa h)[6]?=some (.int .i64 h.fin):=rfl
theorem L9 (h:Ha) (x:Int):(aa h).setIfInBounds 6 (.int .i64 x)=aa { h with fin:=x }:=rfl
theorem LA (h:Ha):(aa h)[7]?=some (.int .i64 h.come):=rfl
theorem LC (h:Ha) (x:Int):(aa h).setIfInBounds 7 (.int .i64 x)=aa { h with come:=x }:=rfl
theorem LD (h:Ha):(aa h)[8]?=some (.int .i64 h.grow):=rfl
theorem LF (h:Ha) (x:Int):(aa h).setIfInBounds 8 (.int .i64 x)=aa { h with grow:=x }:=rfl
theorem LG (h:Ha):(aa h)[9]?=some (.int .i64 h.mine):=rfl
theorem LH (h:Ha) (x:Int):(aa h).setIfInBounds 9 (.int .i64 x)=aa { h with mine:=x }:=rfl
theorem IP (h:Ha):(aa h)[10]?=some (.int .i64 h.nxt):=rfl
theorem IQ (h:Ha) (x:Int):(aa h).setIfInBounds 10 (.int .i64 x)=aa { h with nxt:=x }:=rfl
theorem IU (h:Ha):(aa h)[11]?=some (.int .i64 h.beg):=rfl
theorem IV (h:Ha) (x:Int):(aa h).setIfInBounds 11 (.int .i64 x)=aa { h with beg:=x }:=rfl
theorem IW (h:Ha):(aa h)[12]?=some (.int .i64 h.reply):=rfl
theorem IX (h:Ha) (x:Int):(aa h).setIfInBounds 12 (.int .i64 x)=aa { h with reply:=x }:=rfl
theorem IY (h:Ha):(aa h)[13]?=some (.int .i64 h.out):=rfl
theorem IZ (h:Ha) (x:Int):(aa h).setIfInBounds 13 (.int .i64 x)=aa { h with out:=x }:=rfl
def af (c:Ch) (v1 v2:Value):Array Value:=#[.int .i64 c.cap,.int .i64 c.sent,.int .i64 c.got,.int .i64 c.fin,v1,v2]
theorem Pw (c:Ch) (v1 v2:Value):(af c v1 v2=#[])=False:=by simp [af]
theorem Ff (c:Ch) (v1 v2:Value):(af c v1 v2).size=6:=rfl
theorem LJ (c:Ch) (v1 v2:Value):(af c v1 v2)[0]?=some (.int .i64 c.cap):=rfl
theorem LK (c:Ch) (v1 v2:Value) (x:Int):(af c v1 v2).setIfInBounds 0 (.int .i64 x)=af { c with cap:=x } v1 v2:=rfl
theorem LM (c:Ch) (v1 v2:Value):(af c v1 v2)[1]?=some (.int .i64 c.sent):=rfl
theorem LP (c:Ch) (v1 v2:Value) (x:Int):(af c v1 v2).setIfInBounds 1 (.int .i64 x)=af { c with sent:=x } v1 v2:=rfl
theorem LQ (c:Ch) (v1 v2:Value):(af c v1 v2)[2]?=some (.int .i64 c.got):=rfl
theorem LU (c:Ch) (v1 v2:Value) (x:Int):(af c v1 v2).setIfInBounds 2 (.int .i64 x)=af { c with got:=x } v1 v2:=rfl
theorem LV (c:Ch) (v1 v2:Value):(af c v1 v2)[3]?=some (.int .i64 c.fin):=rfl
theorem LW (c:Ch) (v1 v2:Value) (x:Int):(af c v1 v2).setIfInBounds 3 (.int .i64 x)=af { c with fin:=x } v1 v2:=rfl
theorem LX (c:Ch) (v1 v2:Value):(af c v1 v2)[4]?=some v1:=rfl
theorem LY (c:Ch) (v1 v2:Value):(af c v1 v2)[5]?=some v2:=rfl
theorem LZ (c:Ch) (v1 v2 x:Value):(af c v1 v2).setIfInBounds 4 x=af c x v2:=rfl
theorem Ma (c:Ch) (v1 v2 x:Value):(af c v1 v2).setIfInBounds 5 x=af c v1 x:=rfl
def oG (vs:Array Value):Obj→Obj
 | .cells _ t fr=>.cells vs t fr
 | o=>o
def sW (i:Nat) (v:Value):Obj→Obj
 | .cells c t fr=>.cells (c.setIfInBounds i v) t fr
 | o=>o
def bY (w:World) (b:Nat) (vs:Array Value):World:={ w with heap:=w.heap.modify b (oG vs) }
def hp (w:World) (b:Nat):Option Obj:=w.heap[b]?
def okO (n:Nat):Option Obj→Bool
 | some (.cells c _ fr)=>c.size == n && (fr.1 == 0 && fr.2 == 0)
 | _=>false
def iF:Option Obj→Array Value
 | some (.cells c _ _)=>c
 | _=>#[]
theorem vB (vs c:Array Value) (t:TypeId):oG vs (.cells c t)=.cells vs t:=rfl
theorem eO (i:Nat) (v:Value) (c:Array Value) (t:TypeId):sW i v (.cells c t)=.cells (c.setIfInBounds i v) t:=rfl
theorem FW (n:Nat) (c:Array Value) (t:TypeId):okO n (some (.cells c t))=(c.size == n):=by simp [okO]
theorem qp (c:Array Value) (t:TypeId):iF (some (.cells c t))=c:=rfl
theorem sZ {n:Nat} {o:Option Obj} (h:okO n o=true):∃ c t,o=some (.cells c t)∧c.size=n:=by
 unfold okO at h
 split at h
 ·rename_i c t fr
  obtain ⟨f1,f2⟩:=fr
  simp at h
  obtain ⟨h1,rfl,rfl⟩:=h
  exact ⟨c,t,rfl,h1⟩
 ·cases h
theorem Rh (n:Nat):n<n+1+1:=by omega
theorem Ri (n:Nat):n<n+1+1+1:=by omega
theorem Rj (n:Nat):n<n+1+1+1+1:=by omega
theorem Rk (n:Nat):n<n+1+1+1+1+1:=by omega
variable {w W:World} {b b' n i:Nat} {vs us:Array Value} {v:Value}
theorem aC:(bY w b vs).heap.size=w.heap.size:=by simp [bY]
theorem tu:hp (bY w b vs) b=(hp w b).map (oG vs):=by simp [hp,bY,Array.getElem?_modify]
theorem aD (h:b'≠b):(bY w b vs).heap[b']?=w.heap[b']?:=by simp [bY,Array.getElem?_modify,Ne.symm h]
theorem C9 (h:b'<b):hp (bY w b vs) b'=hp w b':=aD tO
theorem CB (h:b<b'):hp (bY w b vs) b'=hp w b':=aD tO
theorem CE (h:okO vs.size (hp w b)=true):(bY w b vs).cell? ⟨b,i,none⟩=vs[i]?:=by
 obtain ⟨c,t,e,_⟩:=sZ h
 unfold hp at e
 simp [World.cell?,bY,Array.getElem?_modify,e,oG]
theorem tC (h:b'≠b):(bY w b vs).cell? ⟨b',i,none⟩=w.cell? ⟨b',i,none⟩:=World.cell?_of_block (aD h)
theorem CF (h:b'<b):(bY w b vs).cell? ⟨b',i,none⟩=w.cell? ⟨b',i,none⟩:=tC tO
theorem CG (h:b<b'):(bY w b vs).cell? ⟨b',i,none⟩=w.cell? ⟨b',i,none⟩:=tC tO
theorem FX:(bY w b vs).frozen? ⟨b',i,none⟩=w.frozen? ⟨b',i,none⟩:=by
 simp only [World.frozen?,bY,Array.getElem?_modify]
 by_cases e:b=b'
 ·subst e
  simp only [if_true]
  cases w.heap[b]? with
  | none=>rfl
  | some o=>cases o <;> rfl
 ·simp [e]
theorem zX {c:Array Value} {t:TypeId} (hn:n=w.heap.size):bY (w.alloc (.cells c t)) n vs=w.alloc (.cells vs t):=by
 subst hn
 unfold bY World.alloc
 congr 1
 apply Array.ext_getElem?
 intro k
 simp only [Array.getElem?_modify,Array.getElem?_push]
 by_cases hk:k=w.heap.size
 ·subst hk;simp [oG]
 ·simp [hk,Ne.symm hk]
theorem vC {o:Obj} (hn:n<w.heap.size):bY (w.alloc o) n vs=(bY w n vs).alloc o:=by
 unfold bY World.alloc
 congr 1
 apply Array.ext_getElem?
 intro k
 simp only [Array.getElem?_modify,Array.getElem?_push,Array.size_modify]
 by_cases hk:k=w.heap.size
 ·subst hk;simp [Nat.ne_of_lt hn]
 ·simp [hk]
theorem Ja:bY (bY w b vs) b us=bY w b us:=by
 unfold bY
 congr 1
 apply Array.ext_getElem?
 intro k
 simp only [Array.getElem?_modify]
 by_cases e:b=k
 ·subst e
  simp only [if_true]
  cases w.heap[b]? with
  | none=>rfl
  | some o=>cases o <;> rfl
 ·simp [e]
theorem CJ:(bY w b vs).setCell ⟨b,i,none⟩ v=bY w b (vs.setIfInBounds i v):=by
 unfold bY World.setCell
 congr 1
 apply Array.ext_getElem?
 intro k
 simp only [Array.getElem?_modify]
 by_cases e:b=k
 ·subst e
  simp only [if_true]
  cases w.heap[b]? with
  | none=>rfl
  | some o=>cases o <;> rfl
 ·simp [e]
theorem Mc:bY w.drew b vs=(bY w b vs).drew:=rfl
theorem Md:hp w.drew b=hp w b:=rfl
theorem zY {o:Obj} (hn:n=w.heap.size):hp (w.alloc o) n=some o:=by subst hn;exact heap_alloc_new w o
theorem vD {o:Obj} (hn:n<w.heap.size):hp (w.alloc o) n=hp w n:=Below.heap_alloc w o n hn
theorem fF:hp (w.setCell ⟨b,i,none⟩ v) b=(hp w b).map (sW i v):=by
 simp only [hp,World.setCell,Array.getElem?_modify]
 cases w.heap[b]? with
 | none=>simp
 | some o=>cases o <;> simp [sW]
theorem FY (h:b'<b):hp (w.setCell ⟨b,i,none⟩ v) b'=hp w b':=Below.heap_setCell w _ v b' (by simp;omega)
theorem FZ (h:b<b'):hp (w.setCell ⟨b,i,none⟩ v) b'=hp w b':=Below.heap_setCell w _ v b' (by simp;omega)
theorem dB {r:Option Nat} (h:w.grownBy W r) (hb:b<w.heap.size) (hn:some b≠r):hp W b=hp w b:=h.block b hb hn
theorem zZ {r r':Option Nat} (h:ik r r' w W) (hb:i<w.heap.size) (h1:some i≠r) (h2:some i≠r'):hp W i=hp w i:=h.2.2.2.2 i hb h1 h2
theorem bO {w:World} {b:Nat} {cs:Array Value} {t:TypeId} (h:hp w b=some (.cells cs t)):(∀ o,w.cell? ⟨b,o,none⟩=cs[o]?)∧(∀ o,w.frozen? ⟨b,o,none⟩=false)∧b<w.heap.size :=
 ⟨fun o=>cell_of_row w b o cs t _ h,fun o=>by have h2:w.heap[b]?=some (.cells cs t):=h;simp [World.frozen?,h2],(Array.getElem?_eq_some_iff.1 h).1⟩
theorem nT (h:Below n w W) (hb:b<n):hp W b=hp w b:=h.block b hb
theorem hQ {n:Nat} {w W:World} (h:Below n w W) {b:Nat} (hb:b<n:=by ((try simp) <;> omega)):hp W b=hp w b:=nT h hb
theorem q4 {n:Nat} {w W:World} (h:Below n w W) {b:Nat} (hb:b+1+1+1<n:=by ((try simp) <;> omega)):hp W (b+1+1+1)=hp w (b+1+1+1)∧hp W (b+1+1)=hp w (b+1+1)∧hp W (b+1)=hp w (b+1)∧hp W b=hp w b:=⟨nT h tO,nT h tO,nT h tO,nT h tO⟩
theorem Fb {lo:Nat} (h:Below lo w W) (hb:lo≤b):Below lo w (bY W b vs) :=
 ⟨h.os,h.tape,h.output,by rw [aC];exact h.size,fun k hk=>(aD tO).trans (h.block k hk)⟩
theorem Rl {g:Nat} (h:Gr g w W) (hb:b=g∨w.heap.size≤b):Gr g w (bY W b vs) :=
 ⟨h.os,h.tape,h.output,by rw [aC];exact h.size,fun k hk hn=>(aD (by rcases hb with hb|hb;exact fun e=>hn (by rw [e,hb]);omega)).trans (h.block k hk hn)⟩
theorem gp {lo:Nat} {e:TypeId} {k m:Nat} {x:Value} {xs:List Value} (h:w.ownsRow lo e k x m xs) (hp:x.ownBlock≠some b):(bY w b vs).ownsRow lo e k x m xs :=
 h.kept (row:=some b) ⟨rfl,rfl,rfl,by rw [aC];exact Nat.le_refl _,fun i _ hn=>aD (fun e=>hn (by rw [e]))⟩ (.inr hp)
theorem Rm {r:Option Nat} {o:Obj} (h:w.grownBy W r):w.grownBy (W.alloc o) r:=⟨h.os,h.tape,h.output,Nat.le_trans h.size (by simp),fun k hk hn=>(Below.heap_alloc W o k (Nat.lt_of_lt_of_le hk h.size)).trans (h.block k hk hn)⟩
theorem Rn {r:Option Nat} (h:w.grownBy W r):w.grownBy W.drew r:=⟨h.os,h.tape,h.output,h.size,h.block⟩
theorem Ro {r:Option Nat} {p:Addr} {u:Value} (h:w.grownBy W r) (hp:w.heap.size≤p.block):w.grownBy (W.setCell p u) r :=
 ⟨h.os,h.tape,h.output,by simpa [World.setCell] using h.size,fun k hk hn=>(Below.heap_setCell W p u k tO).trans (h.block k hk hn)⟩
theorem Rp {r:Option Nat} (h:w.grownBy W r) (hb:w.heap.size≤b):w.grownBy (bY W b vs) r :=
 ⟨h.os,h.tape,h.output,by rw [aC];exact h.size,fun k hk hn=>(aD tO).trans (h.block k hk hn)⟩
theorem oA {r r':Option Nat} {o:Obj} (h:ik r r' w W):ik r r' w (W.alloc o) :=
 ⟨h.1,h.2.1,h.2.2.1,Nat.le_trans h.2.2.2.1 (by simp),fun k hk h1 h2=>(Below.heap_alloc W o k (Nat.lt_of_lt_of_le hk h.2.2.2.1)).trans (h.2.2.2.2 k hk h1 h2)⟩
theorem oD {r r':Option Nat} (h:ik r r' w W):ik r r' w W.drew:=h
theorem oS {r r':Option Nat} {p:Addr} {u:Value} (h:ik r r' w W) (hp:w.heap.size≤p.block):ik r r' w (W.setCell p u) :=
 ⟨h.1,h.2.1,h.2.2.1,by simpa [World.setCell] using h.2.2.2.1,fun k hk h1 h2=>(Below.heap_setCell W p u k tO).trans (h.2.2.2.2 k hk h1 h2)⟩
theorem oX {r r':Option Nat} (h:ik r r' w W) (hb:w.heap.size≤b):ik r r' w (bY W b vs) :=
 ⟨h.1,h.2.1,h.2.2.1,by rw [aC];exact h.2.2.2.1,fun k hk h1 h2=>(aD tO).trans (h.2.2.2.2 k hk h1 h2)⟩
variable {P:Program} {T:TypeId}
theorem mI (hA:∀ w,(isAgg T).run P w=.ok true w) (hS:∀ w,(sizeOf T).run P w=.ok n w) (h:okO n (hp w b)=true) :
  (loadVar T ⟨b,0,none⟩).run P w=.ok (.agg (iF (hp w b))) w:=by
 unfold hp at *
 obtain ⟨c,t,e,hc⟩:=sZ h
 have h1:(loadCells ⟨b,0,none⟩ c.toList.length).run P w=.ok c.toList.toArray w:=run_loadCells_list w ⟨b,0,none⟩ c.toList (fun j v hj=>by
  have e2:(⟨b,0,none⟩:Addr).add j=⟨b,j,none⟩:=by by_cases h0:j=0 <;> simp [Addr.add,h0]
  rw [e2]
  simp only [World.cell?,e]
  simpa using hj)
 simp only [Array.length_toList,hc] at h1
 rw [e,qp]
 simp only [loadVar,Sem.run_bind,hA,hS,Result.andThen_ok,if_true,h1,Sem.run_pure]
theorem oN (b:Nat):∀ (l:List Value) (o:Nat) (w:World),w.setCells b o l={ w with heap:=w.heap.modify b (fun x=>match x with|.cells c t fr=>.cells ((l.zipIdx o).foldl (fun c p=>c.setIfInBounds p.2 p.1) c) t fr|x=>x) }
 | [],o,w=>by
  unfold World.setCells
  have e:w.heap.modify b (fun x=>match x with|.cells c t fr=>.cells ((([]:List Value).zipIdx o).foldl (fun c p=>c.setIfInBounds p.2 p.1) c) t fr|x=>x)=w.heap:=by
   apply Array.ext_getElem?
   intro k
   simp only [Array.getElem?_modify]
   by_cases e:b=k
   ·subst e
    simp only [if_true]
    cases w.heap[b]? with
    | none=>rfl
    | some x=>cases x <;> rfl
   ·simp [e]
  rw [e]
 | v :: l,o,w=>by
  unfold World.setCells
  rw [oN b l (o+1)]
  simp only [World.setCell]
  congr 1
  apply Array.ext_getElem?
  intro k
  simp only [Array.getElem?_modify]
  by_cases e:b=k
  ·subst e
   simp only [if_true]
   cases w.heap[b]? with
   | none=>rfl
   | some x=>cases x <;> simp [List.zipIdx_cons]
  ·simp [e]
theorem Aa:∀ (l:List Value) (o:Nat) (c:Array Value) (k:Nat),o+l.length≤c.size→((l.zipIdx o).foldl (fun c p=>c.setIfInBounds p.2 p.1) c)[k]?=if o≤k∧k<o+l.length then l[k - o]? else c[k]?
 | [],o,c,k,_=>by
  have:¬ (o≤k∧k<o+([]:List Value).length):=by simp
  rw [if_neg this];rfl
 | v :: l,o,c,k,h=>by
  simp only [List.zipIdx_cons,List.foldl_cons,List.length_cons] at *
  rw [Aa l (o+1) _ k (by rw [Array.size_setIfInBounds];omega)]
  by_cases e:k=o
  ·subst e
   rw [if_neg tO,if_pos tO,Array.getElem?_setIfInBounds,if_pos rfl,if_pos tO];simp
  ·by_cases e2:o+1≤k∧k<o+1+l.length
   ·rw [if_pos e2,if_pos tO]
    obtain ⟨m,rfl⟩:∃ m,k=o+1+m:=⟨k - (o+1),by omega⟩
    rw [show o+1+m - (o+1)=m by omega,show o+1+m - o=m+1 by omega];rfl
   ·rw [if_neg e2,if_neg tO,Array.getElem?_setIfInBounds,if_neg (fun h=>e h.symm)]
theorem Jb (vs c:Array Value) (h:c.size=vs.size):((vs.toList.zipIdx 0).foldl (fun c p=>c.setIfInBounds p.2 p.1) c)=vs:=by
 apply Array.ext_getElem?
 intro k
 rw [Aa _ _ _ _ (by simp;omega)]
 by_cases e:k<vs.size
 ·rw [if_pos (by simp;omega)];simp
 ·rw [if_neg (by simp;omega),Array.getElem?_eq_none tO,Array.getElem?_eq_none tO]
theorem nV (h:okO n (hp w b)=true) (hv:vs.size=n) (h1:∀ v ∈ vs.toList,v.oneCell'=true) :
  (storeCells ⟨b,0,none⟩ vs.toList).run P w=.ok () (bY w b vs):=by
 unfold hp at h
 obtain ⟨c,t,e,hc⟩:=sZ h
 have h2:=run_storeCells_cells (P:=P) b 0 vs.toList 0 w (fun j hj=>by
   have:j<c.size:=by rw [hc,← hv];simpa using hj
   simp [World.cell?,e,this]) (fun j hj=>by simp [World.frozen?,e]) h1
 have h3:w.setCells b (0+0) vs.toList=bY w b vs:=by
  rw [oN]
  unfold bY
  congr 1
  apply Array.ext_getElem?
  intro k
  simp only [Array.getElem?_modify]
  by_cases ek:b=k
  ·subst ek
   simp only [if_true,e,Option.map_some,oG]
   rw [Jb vs c tO]
  ·simp [ek]
 rw [h3] at h2
 exact h2
theorem wT (hS:∀ w,(sizeOf T).run P w=.ok n w) (h:okO n (hp w b)=true) (hv:vs.size=n) (h1:∀ v ∈ vs.toList,v.oneCell'=true) :
  (storeVar T ⟨b,0,none⟩ (.agg vs)).run P w=.ok () (bY w b vs):=by
 have h2:=nV (P:=P) h hv h1
 simp only [storeVar,Sem.run_bind,hS,Result.andThen_ok,Value.cells,hv,ne_eq,not_true_eq_false,if_false]
 simpa using h2
variable {fn:Func} {p q u:Tmp} {S:TypeId} {tmps:Array Value} {a a':Addr} {x y:Value}
theorem ic (h:fn.results=#[.cell p T]) (hp:tmps.getD p undef=.pointer (some a)) (hl:(loadVar T a).run P w=.ok x w):(results fn tmps).run P w=.ok x w:=by
 simp only [results,h]
 simp [Sem.run_bind,Result.andThen,asAddr] at *
 simp [hp,hl]
theorem ja (h:fn.results=#[.cell p T,.tmp u]) (hp:tmps.getD p undef=.pointer (some a)) (hl:(loadVar T a).run P w=.ok x w):(results fn tmps).run P w=.ok (.tuple #[x,tmps.getD u undef]) w:=by
 simp only [results,h]
 simp [Sem.run_bind,Result.andThen,asAddr] at *
 simp [hp,hl]
theorem pQ (h:fn.results=#[.cell p T,.cell q S]) (hp:tmps.getD p undef=.pointer (some a)) (hl:(loadVar T a).run P w=.ok x w) (hp':tmps.getD q undef=.pointer (some a')) (hl':(loadVar S a').run P w=.ok y w):(results fn tmps).run P w=.ok (.tuple #[x,y]) w:=by
 simp only [results,h]
 simp [Sem.run_bind,Result.andThen,asAddr] at *
 simp [hp,hl,hp',hl']
theorem iV (h:fn.results=#[.cell p T,.cell q S,.tmp u]) (hp:tmps.getD p undef=.pointer (some a)) (hl:(loadVar T a).run P w=.ok x w) (hp':tmps.getD q undef=.pointer (some a')) (hl':(loadVar S a').run P w=.ok y w):(results fn tmps).run P w=.ok (.tuple #[x,y,tmps.getD u undef]) w:=by
 simp only [results,h]
 simp [Sem.run_bind,Result.andThen,asAddr] at *
 simp [hp,hl,hp',hl']
theorem Rq {n:Nat} {w W:World} (h:Below n w W) {b:Nat} (hb:b+1<n:=by ((try simp) <;> omega)):hp W (b+1)=hp w (b+1)∧hp W (b)=hp w (b):=⟨nT h tO,nT h tO⟩
theorem Tu {n:Nat} {w W:World} (h:Below n w W) {b:Nat} (hb:b+1+1+1+1<n:=by ((try simp) <;> omega)):hp W (b+1+1+1+1)=hp w (b+1+1+1+1)∧hp W (b+1+1+1)=hp w (b+1+1+1)∧hp W (b+1+1)=hp w (b+1+1)∧hp W (b+1)=hp w (b+1)∧hp W (b)=hp w (b):=⟨nT h tO,nT h tO,nT h tO,nT h tO,nT h tO⟩
theorem NU {r:Option Nat} {w W:World} (h:w.grownBy W r) {b:Nat} (hb:b+1+1+1<w.heap.size:=by ((try simp) <;> omega)) (h3:some (b+1+1+1)≠r:=by assumption) (h2:some (b+1+1)≠r:=by assumption) (h1:some (b+1)≠r:=by assumption) (h0:some (b)≠r:=by assumption):hp W (b+1+1+1)=hp w (b+1+1+1)∧hp W (b+1+1)=hp w (b+1+1)∧hp W (b+1)=hp w (b+1)∧hp W (b)=hp w (b):=⟨dB h tO h3,dB h tO h2,dB h tO h1,dB h tO h0⟩
theorem Tv {r:Option Nat} {w W:World} (h:w.grownBy W r) {b:Nat} (hb:b+1+1+1+1<w.heap.size:=by ((try simp) <;> omega)) (h4:some (b+1+1+1+1)≠r:=by assumption) (h3:some (b+1+1+1)≠r:=by assumption) (h2:some (b+1+1)≠r:=by assumption) (h1:some (b+1)≠r:=by assumption) (h0:some (b)≠r:=by assumption):hp W (b+1+1+1+1)=hp w (b+1+1+1+1)∧hp W (b+1+1+1)=hp w (b+1+1+1)∧hp W (b+1+1)=hp w (b+1+1)∧hp W (b+1)=hp w (b+1)∧hp W (b)=hp w (b):=⟨dB h tO h4,dB h tO h3,dB h tO h2,dB h tO h1,dB h tO h0⟩
theorem Fg {w W:World} (h:Below w.heap.size w W) {b:Nat} (hb:b<w.heap.size:=by ((try simp) <;> omega)):(∀ o,W.cell? ⟨b,o,none⟩=w.cell? ⟨b,o,none⟩)∧(∀ o,W.frozen? ⟨b,o,none⟩=w.frozen? ⟨b,o,none⟩)∧b<W.heap.size:=⟨fun o=>h.cell (p:=⟨b,o,none⟩) hb,fun o=>h.frozen (p:=⟨b,o,none⟩) hb,Nat.lt_of_lt_of_le hb h.size⟩
theorem zG {g:Nat} {w W:World} (h:Gr g w W:=by (repeat (first|with_reducible assumption|with_reducible exact gR _ _|with_reducible refine gA ?_|with_reducible refine gD ?_|with_reducible refine gS ?_ (.inl rfl)|((with_reducible refine Rl ?_ (.inr ?_));rotate_left;(focus ((try dsimp only);(try simp);(try omega))))|((with_reducible refine gS ?_ (.inr ?_));rotate_left;(focus ((try dsimp only);(try simp);(try omega))))))):Gr g w W:=h
theorem zN {r r':Option Nat} {w W:World} (h:ik r r' w W:=by (repeat (first|with_reducible assumption|with_reducible refine oA ?_|with_reducible refine oD ?_|((with_reducible refine oX ?_ ?_);rotate_left;(focus ((try dsimp only);(try simp);(try omega))))|((with_reducible refine oS ?_ ?_);rotate_left;(focus ((try dsimp only);(try simp);(try omega))))))):ik r r' w W:=h
theorem OX {w:World} {b0:Nat} {c0:Array Value} {t0:TypeId} (h:hp w b0=some (.cells c0 t0)):(hp w b0=some (.cells c0 t0)∧(∀ o,w.cell? ⟨b0,o,none⟩=c0[o]?)∧(∀ o,w.frozen? ⟨b0,o,none⟩=false)∧b0<w.heap.size):=⟨h,bO h⟩
theorem zS {w:World} {b0 b1:Nat} {c0 c1:Array Value} {t0 t1:TypeId} (h:hp w b0=some (.cells c0 t0)∧hp w b1=some (.cells c1 t1)):(hp w b0=some (.cells c0 t0)∧(∀ o,w.cell? ⟨b0,o,none⟩=c0[o]?)∧(∀ o,w.frozen? ⟨b0,o,none⟩=false)∧b0<w.heap.size)∧(hp w b1=some (.cells c1 t1)∧(∀ o,w.cell? ⟨b1,o,none⟩=c1[o]?)∧(∀ o,w.frozen? ⟨b1,o,none⟩=false)∧b1<w.heap.size):=⟨⟨h.1,bO h.1⟩,h.2,bO h.2⟩
theorem Cs {w:World} {b0 b1 b2:Nat} {c0 c1 c2:Array Value} {t0 t1 t2:TypeId} (h:hp w b0=some (.cells c0 t0)∧hp w b1=some (.cells c1 t1)∧hp w b2=some (.cells c2 t2)):(hp w b0=some (.cells c0 t0)∧(∀ o,w.cell? ⟨b0,o,none⟩=c0[o]?)∧(∀ o,w.frozen? ⟨b0,o,none⟩=false)∧b0<w.heap.size)∧(hp w b1=some (.cells c1 t1)∧(∀ o,w.cell? ⟨b1,o,none⟩=c1[o]?)∧(∀ o,w.frozen? ⟨b1,o,none⟩=false)∧b1<w.heap.size)∧(hp w b2=some (.cells c2 t2)∧(∀ o,w.cell? ⟨b2,o,none⟩=c2[o]?)∧(∀ o,w.frozen? ⟨b2,o,none⟩=false)∧b2<w.heap.size):=⟨⟨h.1,bO h.1⟩,⟨h.2.1,bO h.2.1⟩,h.2.2,bO h.2.2⟩
theorem dF {w:World} {b0 b1 b2 b3:Nat} {c0 c1 c2 c3:Array Value} {t0 t1 t2 t3:TypeId} (h:hp w b0=some (.cells c0 t0)∧hp w b1=some (.cells c1 t1)∧hp w b2=some (.cells c2 t2)∧hp w b3=some (.cells c3 t3)):(hp w b0=some (.cells c0 t0)∧(∀ o,w.cell? ⟨b0,o,none⟩=c0[o]?)∧(∀ o,w.frozen? ⟨b0,o,none⟩=false)∧b0<w.heap.size)∧(hp w b1=some (.cells c1 t1)∧(∀ o,w.cell? ⟨b1,o,none⟩=c1[o]?)∧(∀ o,w.frozen? ⟨b1,o,none⟩=false)∧b1<w.heap.size)∧(hp w b2=some (.cells c2 t2)∧(∀ o,w.cell? ⟨b2,o,none⟩=c2[o]?)∧(∀ o,w.frozen? ⟨b2,o,none⟩=false)∧b2<w.heap.size)∧(hp w b3=some (.cells c3 t3)∧(∀ o,w.cell? ⟨b3,o,none⟩=c3[o]?)∧(∀ o,w.frozen? ⟨b3,o,none⟩=false)∧b3<w.heap.size):=⟨⟨h.1,bO h.1⟩,⟨h.2.1,bO h.2.1⟩,⟨h.2.2.1,bO h.2.2.1⟩,h.2.2.2,bO h.2.2.2⟩
theorem jL {w:World} {b0 b1 b2 b3 b4:Nat} {c0 c1 c2 c3 c4:Array Value} {t0 t1 t2 t3 t4:TypeId} (h:hp w b0=some (.cells c0 t0)∧hp w b1=some (.cells c1 t1)∧hp w b2=some (.cells c2 t2)∧hp w b3=some (.cells c3 t3)∧hp w b4=some (.cells c4 t4)):(hp w b0=some (.cells c0 t0)∧(∀ o,w.cell? ⟨b0,o,none⟩=c0[o]?)∧(∀ o,w.frozen? ⟨b0,o,none⟩=false)∧b0<w.heap.size)∧(hp w b1=some (.cells c1 t1)∧(∀ o,w.cell? ⟨b1,o,none⟩=c1[o]?)∧(∀ o,w.frozen? ⟨b1,o,none⟩=false)∧b1<w.heap.size)∧(hp w b2=some (.cells c2 t2)∧(∀ o,w.cell? ⟨b2,o,none⟩=c2[o]?)∧(∀ o,w.frozen? ⟨b2,o,none⟩=false)∧b2<w.heap.size)∧(hp w b3=some (.cells c3 t3)∧(∀ o,w.cell? ⟨b3,o,none⟩=c3[o]?)∧(∀ o,w.frozen? ⟨b3,o,none⟩=false)∧b3<w.heap.size)∧(hp w b4=some (.cells c4 t4)∧(∀ o,w.cell? ⟨b4,o,none⟩=c4[o]?)∧(∀ o,w.frozen? ⟨b4,o,none⟩=false)∧b4<w.heap.size):=⟨⟨h.1,bO h.1⟩,⟨h.2.1,bO h.2.1⟩,⟨h.2.2.1,bO h.2.2.1⟩,⟨h.2.2.2.1,bO h.2.2.2.1⟩,h.2.2.2.2,bO h.2.2.2.2⟩
theorem Vu {w:World} {b0 b1 b2 b3 b4 b5:Nat} {c0 c1 c2 c3 c4 c5:Array Value} {t0 t1 t2 t3 t4 t5:TypeId} (h:hp w b0=some (.cells c0 t0)∧hp w b1=some (.cells c1 t1)∧hp w b2=some (.cells c2 t2)∧hp w b3=some (.cells c3 t3)∧hp w b4=some (.cells c4 t4)∧hp w b5=some (.cells c5 t5)):(hp w b0=some (.cells c0 t0)∧(∀ o,w.cell? ⟨b0,o,none⟩=c0[o]?)∧(∀ o,w.frozen? ⟨b0,o,none⟩=false)∧b0<w.heap.size)∧(hp w b1=some (.cells c1 t1)∧(∀ o,w.cell? ⟨b1,o,none⟩=c1[o]?)∧(∀ o,w.frozen? ⟨b1,o,none⟩=false)∧b1<w.heap.size)∧(hp w b2=some (.cells c2 t2)∧(∀ o,w.cell? ⟨b2,o,none⟩=c2[o]?)∧(∀ o,w.frozen? ⟨b2,o,none⟩=false)∧b2<w.heap.size)∧(hp w b3=some (.cells c3 t3)∧(∀ o,w.cell? ⟨b3,o,none⟩=c3[o]?)∧(∀ o,w.frozen? ⟨b3,o,none⟩=false)∧b3<w.heap.size)∧(hp w b4=some (.cells c4 t4)∧(∀ o,w.cell? ⟨b4,o,none⟩=c4[o]?)∧(∀ o,w.frozen? ⟨b4,o,none⟩=false)∧b4<w.heap.size)∧(hp w b5=some (.cells c5 t5)∧(∀ o,w.cell? ⟨b5,o,none⟩=c5[o]?)∧(∀ o,w.frozen? ⟨b5,o,none⟩=false)∧b5<w.heap.size):=⟨⟨h.1,bO h.1⟩,⟨h.2.1,bO h.2.1⟩,⟨h.2.2.1,bO h.2.2.1⟩,⟨h.2.2.2.1,bO h.2.2.2.1⟩,⟨h.2.2.2.2.1,bO h.2.2.2.2.1⟩,h.2.2.2.2.2,bO h.2.2.2.2.2⟩
theorem zT {n:Nat} {w W:World} (h:Below n w W) {b:Nat} (hb:b+1+1+1<n:=by ((try simp) <;> omega)):hp W (b+1+1+1)=hp w (b+1+1+1)∧hp W (b+1+1)=hp w (b+1+1)∧hp W (b+1)=hp w (b+1)∧hp W b=hp w b:=q4 h hb
theorem Px {w W w1:World} (bb:Below w.heap.size w W) (h:Below W.heap.size W w1) {b:Nat} (hb:b<W.heap.size:=by ((try simp) <;> omega)):Below w.heap.size w w1∧W.heap.size≤w1.heap.size∧hp w1 (b)=hp W (b):=⟨bT bb h,h.size,nT h tO⟩
theorem CK {w W w1:World} (bb:Below w.heap.size w W) (h:Below W.heap.size W w1) {b:Nat} (hb:b+1<W.heap.size:=by ((try simp) <;> omega)):Below w.heap.size w w1∧W.heap.size≤w1.heap.size∧hp w1 (b+1)=hp W (b+1)∧hp w1 (b)=hp W (b):=⟨bT bb h,h.size,nT h tO,nT h tO⟩
theorem Ct {w W w1:World} (bb:Below w.heap.size w W) (h:Below W.heap.size W w1) {b:Nat} (hb:b+1+1<W.heap.size:=by ((try simp) <;> omega)):Below w.heap.size w w1∧W.heap.size≤w1.heap.size∧hp w1 (b+1+1)=hp W (b+1+1)∧hp w1 (b+1)=hp W (b+1)∧hp w1 (b)=hp W (b):=⟨bT bb h,h.size,nT h tO,nT h tO,nT h tO⟩
theorem dZ {w W w1:World} (bb:Below w.heap.size w W) (h:Below W.heap.size W w1) {b:Nat} (hb:b+1+1+1<W.heap.size:=by ((try simp) <;> omega)):Below w.heap.size w w1∧W.heap.size≤w1.heap.size∧hp w1 (b+1+1+1)=hp W (b+1+1+1)∧hp w1 (b+1+1)=hp W (b+1+1)∧hp w1 (b+1)=hp W (b+1)∧hp w1 (b)=hp W (b):=⟨bT bb h,h.size,nT h tO,nT h tO,nT h tO,nT h tO⟩
theorem wU {w W w1:World} (bb:Below w.heap.size w W) (h:Below W.heap.size W w1) {b:Nat} (hb:b+1+1+1+1<W.heap.size:=by ((try simp) <;> omega)):Below w.heap.size w w1∧W.heap.size≤w1.heap.size∧hp w1 (b+1+1+1+1)=hp W (b+1+1+1+1)∧hp w1 (b+1+1+1)=hp W (b+1+1+1)∧hp w1 (b+1+1)=hp W (b+1+1)∧hp w1 (b+1)=hp W (b+1)∧hp w1 (b)=hp W (b):=⟨bT bb h,h.size,nT h tO,nT h tO,nT h tO,nT h tO,nT h tO⟩
theorem aT {w W:World} {a:Option Addr} {n k:Nat} {f:Nat→Nat→Value} (h:Hid (Seg w w.heap.size a n k f)) (bb:Below w.heap.size w W):Seg W W.heap.size a n k f:=(h.out.below bb).more bb.size
theorem jF {w:World} {lo:Nat} {e:TypeId} {k n:Nat} {v:Value} {xs:List Value} (h:w.ownsRow lo e k v n xs):∀ j,v.ownBlock=some j→j<w.heap.size:=fun j hj=>(h.lt j hj).2
theorem mG {w:World} {v:Value} (b:∀ j,v.ownBlock=some j→j<w.heap.size):∀ j,w.heap.size≤j→some j≠v.ownBlock:=fun j hj e=>by have:=b _ e.symm;omega
theorem ql {w:World} {lo:Nat} {v1 v2:Value} {cs:List C3} {ws:List Int} (h1:ag w lo v1 cs) (h2:ai w lo v2 ws):∃ (a1:Option Addr) (q1:Nat) (a2:Option Addr) (q2:Nat),v1=.slice a1 cs.length q1∧v2=.slice a2 ws.length q2∧Hid (ag w lo v1 cs)∧Hid (ai w lo v2 ws)∧(∀ j,v1.ownBlock=some j→j<w.heap.size)∧(∀ j,v2.ownBlock=some j→j<w.heap.size):=by
 obtain ⟨a1,q1,e1,_⟩:=ag.seg h1
 obtain ⟨a2,q2,e2,_⟩:=ai.seg h2
 exact ⟨a1,q1,a2,q2,e1,e2,h1,h2,jF h1,jF h2⟩
theorem Cu {w:World} {lo:Nat} {v1 v2:Value} {cs:List C3} {ws:List Int} (h1:ag w lo v1 cs) (h2:ai w lo v2 ws):∃ (a1:Option Addr) (q1:Nat) (a2:Option Addr) (q2:Nat),v1=.slice a1 cs.length q1∧v2=.slice a2 ws.length q2∧ag w lo v1 cs∧ai w lo v2 ws∧(∀ j,v1.ownBlock=some j→j<w.heap.size)∧(∀ j,v2.ownBlock=some j→j<w.heap.size)∧(∀ j,w.heap.size≤j→some j≠v1.ownBlock)∧(∀ j,w.heap.size≤j→some j≠v2.ownBlock)∧some (w.heap.size)≠v1.ownBlock∧some (w.heap.size)≠v2.ownBlock∧some (w.heap.size+1)≠v1.ownBlock∧some (w.heap.size+1)≠v2.ownBlock∧some (w.heap.size+1+1)≠v1.ownBlock∧some (w.heap.size+1+1)≠v2.ownBlock∧some (w.heap.size+1+1+1)≠v1.ownBlock∧some (w.heap.size+1+1+1)≠v2.ownBlock:=by
 obtain ⟨a1,q1,e1,_⟩:=ag.seg h1
 obtain ⟨a2,q2,e2,_⟩:=ai.seg h2
 have m1:=mG (jF h1)
 have m2:=mG (jF h2)
 exact ⟨a1,q1,a2,q2,e1,e2,h1,h2,jF h1,jF h2,m1,m2,m1 _ tO,m2 _ tO,m1 _ tO,m2 _ tO,m1 _ tO,m2 _ tO,m1 _ tO,m2 _ tO⟩
theorem tZ {P:Prop} (h:P:=by simp [go_sem, *] <;> rfl):P:=h
theorem tY {P:Prop} (h:P:=by simp [go_sem, *]):P:=h
theorem jd {w:World} {lo:Nat} {e:TypeId} {k n:Nat} {v:Value} {xs:List Value} (h:w.ownsRow lo e k v n xs) (lim:Nat) (hl:lim≤lo:=by ((try simp) <;> omega)):∀ j,v.ownBlock=some j→lim≤j:=fun j hj=>Nat.le_trans hl (h.lt j hj).1
theorem vE {r r':Option Nat} {w W:World} (h:ik r r' w W) {b:Nat} (hb:b+1+1+1<w.heap.size:=by ((try simp) <;> omega)) (h3:some (b+1+1+1)≠r:=by assumption) (g3:some (b+1+1+1)≠r':=by assumption) (h2:some (b+1+1)≠r:=by assumption) (g2:some (b+1+1)≠r':=by assumption) (h1:some (b+1)≠r:=by assumption) (g1:some (b+1)≠r':=by assumption) (h0:some (b)≠r:=by assumption) (g0:some (b)≠r':=by assumption):hp W (b+1+1+1)=hp w (b+1+1+1)∧hp W (b+1+1)=hp w (b+1+1)∧hp W (b+1)=hp w (b+1)∧hp W (b)=hp w (b):=⟨zZ h tO h3 g3,zZ h tO h2 g2,zZ h tO h1 g1,zZ h tO h0 g0⟩
theorem kZ {a b:Nat} (h:a+1+1+1<b:=by omega):a<b∧a+1<b∧a+1+1<b∧a+1+1+1<b:=⟨by omega,by omega,by omega,h⟩
theorem rE {R:Ending→World→Prop} {Tw:List Deferred} {w:World} (h:fn.results=#[.cell p T,.cell q S,.tmp u]) (hp:tmps.getD p undef=.pointer (some a)) (hl:(loadVar T a).run P w=.ok x w) (hp':tmps.getD q undef=.pointer (some a')) (hl':(loadVar S a').run P w=.ok y w) (hR:R (.returned (.tuple #[x,y,tmps.getD u undef])) w) (hd:Tw=[]:=by rfl):bodyPost P fn R .ret { tmps:=tmps,defers:=Tw } w:=bodyPost_ret (iV h hp hl hp' hl') hd hR
end
section
open Go.RowKit
variable {w w':World} {v:Value} {lo b:Nat} {x y ys:Array Value} {T T':TypeId}
theorem aQ (w:World) (o:Obj):Below w.heap.size w (w.alloc o):=(Below.refl _ _).alloc (Nat.le_refl _) o
theorem dS (h:hp w b=some (.cells x T)) (hb:Below w.heap.size w w'):hp w' b=some (.cells x T):=(nT hb (bO h).2.2).trans h
def gy (w:World) (v:Value) (lo:Nat) (x:Array Value) (T:TypeId):Prop:=∃ b,v=.pointer (some ⟨b,0,none⟩)∧lo≤b∧hp w b=some (.cells x T)
theorem gy.below (h:gy w v lo x T) (hb:Below w.heap.size w w'):gy w' v lo x T:=by
 obtain ⟨b,e,hl,hz⟩:=h
 exact ⟨b,e,hl,dS hz hb⟩
theorem gy.new (h:lo≤w.heap.size):gy (w.alloc (.cells x T)) (.pointer (some ⟨w.heap.size,0,none⟩)) lo x T :=
 ⟨_,rfl,h,heap_alloc_new w _⟩
theorem ni (hz:hp w b=some (.cells y T')) {b':Nat} (h:hp w b'=some (.cells x T)) (hne:T≠T'):hp (bY w b ys) b'=some (.cells x T):=by
 have:b'≠b:=by
  rintro rfl
  rw [hz] at h
  simp at h
  exact hne h.2.symm
 exact (aD this).trans h
theorem fH (hz:hp w b=some (.cells y T)):hp (bY w b ys) b=some (.cells ys T):=by rw [tu,hz];rfl
theorem gy.far (h:gy w v lo x T) (hz:hp w b=some (.cells y T')) (hne:T≠T'):gy (bY w b ys) v lo x T:=by
 obtain ⟨b',e,hl,h⟩:=h
 exact ⟨b',e,hl,ni hz h hne⟩
theorem cO {e:TypeId} {k m:Nat} {u:Value} {xs:List Value} (h:w.ownsRow lo e k u m xs) (hz:hp w b=some (.cells y T')) (hne:e≠T'):(bY w b ys).ownsRow lo e k u m xs:=by
 refine gp h fun e2=>?_
 rcases h.2 with ⟨rfl,_⟩|⟨g,cap,cur,rfl,_,hg,_⟩
 ·cases e2
 ·simp [Value.ownBlock] at e2
  subst e2
  unfold hp at hz
  rw [hz] at hg
  simp at hg
  exact hne hg.2.symm
theorem dh {e:TypeId} {k m:Nat} {u:Value} {xs:List Value} (h:w.ownsRow lo e k u m xs) (hz:hp w b=some (.cells y T')) (hne:e≠T'):∀ i,u.ownBlock=some i→i≠b:=by
 rintro i e2 rfl
 rcases h.2 with ⟨rfl,_⟩|⟨g,cap,cur,rfl,_,hg,_⟩
 ·cases e2
 ·simp [Value.ownBlock] at e2
  subst e2
  unfold hp at hz
  rw [hz] at hg
  simp at hg
  exact hne hg.2.symm
theorem zW {W:World} {e:TypeId} {k m:Nat} {u:Value} {xs:List Value} (h:w.ownsRow lo e k u m xs) (hz:hp w b=some (.cells y T')) (g:w.ownsRow lo e k u m xs→hp w b=some (.cells y T')→W.ownsRow lo e k u m xs:=by (intro zo zz;repeat (first|with_reducible exact zo|((with_reducible refine aS ?_ ?_ _);rotate_left;(focus exact fun e9=>dh zo zz (by decide) _ e9 rfl))))):W.ownsRow lo e k u m xs:=g h hz
end
section
abbrev St:=Ch × Ha × Bool
def bf (c:Ch) (h:Ha) (f t k:Int):Bool:=aK c && (bW h && (dm h.pos f t && (k == 0 || h.code == k)))
def nothing:St:=(Ch.zero,Ha.zero,false)
def done (c:Ch) (h:Ha):St:=if aK c && bW h then (c,h,true) else nothing
def anew (h:Ha):Ha:=begun h.code h.elem h.beg
def cellAt (c:Ch) (i:Int):C3:=c.cells.getD i.toNat ⟨0,0,0⟩
def setAt (c:Ch) (i:Int) (x:C3):Ch:={ c with cells:=c.cells.set i.toNat x }
def bP (c:Ch) (i st:Int):Ch:=setAt c i { cellAt c i with s:=st }
def lX (x:C3) (f t v:Int):C3:=⟨sS x.s x.e x.t f t v,x.e,sU x.s x.e x.t f t v⟩
def xS (x:C3) (f t v:Int):Bool:=jT x.s x.e x.t f t v
def aY (c:Ch) (i f t v:Int):Ch:=setAt c i (lX (cellAt c i) f t v)
def bn (c:Ch) (i f t v:Int):Bool:=xS (cellAt c i) f t v
def bM (h:Ha) (x:C3):Ha:={ h with seen:=x.s,wait:=x.t }
def je (c:Ch) (h:Ha):Ha × Bool :=
 let x:=cellAt c h.cell
 let y:=bM h x
 if x.s == 0 then ({ y with pos:=4 },true) else if x.s == 1 then ({ y with pos:=6 },true) else if x.s == 4 then ({ y with pos:=7 },true)
 else if x.s == 8 then (anew y,true) else if x.s == 10 then (anew y,true) else (y,false)
def lY (c:Ch) (h:Ha):Ch × Ha:=(dN c h.wait 1,if fo c h.wait 1 then { h with pos:=8 } else anew h)
def eT (c:Ch) (h:Ha) (st th el:Int):Ch × Ha :=
 if 80≤c.words.length then (c,aP 4 0) else
 if bn c h.cell h.seen st (c.words.length+1) then ({ aY c h.cell h.seen st (c.words.length+1) with words:=c.words ++ [0] },{ h with mine:=c.words.length+1,pos:=th })
 else (aY c h.cell h.seen st (c.words.length+1),{ h with pos:=el })
def iK (c:Ch) (h:Ha):St :=
 if h.seen != 0 && h.seen != 1 then nothing else
 if h.seen == 0 && (decide (h.come≤h.cell) && decide (h.fin≤h.cell)) then done (eT c h 3 23 3).1 (eT c h 3 23 3).2 else
 if bn c h.cell h.seen 2 0 then done (aY c h.cell h.seen 2 0) (aP 1 0) else done (aY c h.cell h.seen 2 0) { h with pos:=3 }
def wV (c:Ch) (h:Ha):St:=if c.sent == 40 then done c (aP 4 0) else done { c with sent:=c.sent+1 } { h with cell:=c.sent,pos:=2 }
def nk (c:Ch) (i m:Int):Ch:=setAt c i { cellAt c i with e:=kQ (cellAt c i).s (cellAt c i).e (cellAt c i).t m }
def Fh (c:Ch) (h:Ha):St:=done (nk c h.cell h.elem) { h with pos:=3 }
def Ab (c:Ch) (h:Ha):St:=if (je c h).2 then done c (je c h).1 else nothing
def aZ (c:Ch) (h:Ha):St :=
 if bf c h 1 8 1 then
  if h.pos == 1 then wV c h else if h.pos == 2 then Fh c h else if h.pos == 3 then Ab c h
  else if h.pos == 4 then done c { h with fin:=c.fin,pos:=5 } else if h.pos == 5 then done c { h with come:=c.got,pos:=6 }
  else if h.pos == 6 then iK c h else if h.pos == 7 then done (lY c h).1 (lY c h).2 else done (bP c h.cell 7) (aP 1 0)
 else nothing
end
section
def dK (h:Ha) (x:C3):Ha:={ h with seen:=x.s,wait:=x.t,out:=x.e }
def gP (c:Ch) (h:Ha):Ha × Bool :=
 let x:=cellAt c h.cell
 let y:=dK h x
 if x.s == 0 then ({ y with pos:=11 },true) else if x.s == 1 then ({ y with pos:=11 },true) else if x.s == 2 then ({ y with pos:=12 },true)
 else if x.s == 3 then ({ y with pos:=12 },true) else if x.s == 9 then (anew y,true) else (y,false)
def dR (h:Ha) (t:Int):Ha:={ h with nxt:=t,pos:=16 }
def iA (c:Ch) (h:Ha) (to wt:Int) (thn:Ha):St :=
 if bn c h.cell h.seen to wt then done (aY c h.cell h.seen to wt) thn else done (aY c h.cell h.seen to wt) { h with pos:=10 }
def rJ (h:Ha):Ha:=if h.pos == 16 then { h with nxt:=1 } else h
def fG (c:Ch) (h:Ha):St :=
 if h.seen == 2 then iA c h 7 0 (dR h 0) else if h.seen == 3 then iA c h 5 h.wait { h with pos:=13 }
 else if h.seen != 0 && h.seen != 1 then nothing else if h.cell<h.come then iA c h 8 0 (dR h 2)
 else done (eT c h 4 16 10).1 (rJ (eT c h 4 16 10).2)
def wW (c:Ch) (h:Ha):St:=if c.got == 40 then done c (aP 4 0) else done { c with got:=c.got+1 } { h with cell:=c.got,pos:=10 }
def wX (c:Ch) (h:Ha):St:=if (cellAt c h.cell).s == 6 then (c,h,false) else if (gP c h).2 then done c (gP c h).1 else nothing
def wY (c:Ch) (h:Ha):St:=done (dN c h.wait 1) { h with pos:=if fo c h.wait 1 then 14 else 15 }
def bg (c:Ch) (h:Ha):St :=
 if bf c h 9 15 2 then
  if h.pos == 9 then wW c h else if h.pos == 10 then wX c h else if h.pos == 11 then done c { h with come:=c.sent,pos:=12 }
  else if h.pos == 12 then fG c h else if h.pos == 13 then wY c h
  else if h.pos == 14 then done (bP c h.cell 7) (dR h 0) else done (bP c h.cell 9) (anew h)
 else nothing
def dC (h:Ha):Ha:=if h.nxt == 0 then aP 2 h.out else if h.nxt == 1 then { h with pos:=23 } else anew h
def kR (c:Ch) (h:Ha):Ha :=
 let x:=cellAt c h.grow
 let y:=bM h x
 if x.s == 0 then { y with pos:=19 } else if x.s == 3 then { y with pos:=19 } else if x.s == 9 then { y with pos:=16 } else dC y
def kS (c:Ch) (h:Ha) (to wt:Int) (thn:Ha):St :=
 if bn c h.grow h.seen to wt then done (aY c h.grow h.seen to wt) thn else done (aY c h.grow h.seen to wt) { h with pos:=18 }
def gz (c:Ch) (h:Ha):St:=if h.seen == 3 then kS c h 6 h.wait { h with pos:=20 } else if h.seen == 0 then kS c h 1 0 (dC h) else nothing
def gF (c:Ch) (h:Ha):Ch × Ha:=if c.cap == 0 || c.fin == 40 then (c,dC h) else ({ c with fin:=c.fin+1 },{ h with grow:=c.fin,pos:=17 })
def lF (c:Ch) (h:Ha):St:=if (cellAt c h.grow).s == 5 then (c,h,false) else done c (kR c h)
def qY (c:Ch) (h:Ha):St:=done (dN c h.wait 1) { h with pos:=if fo c h.wait 1 then 21 else 22 }
def bH (c:Ch) (h:Ha):St :=
 if bf c h 16 22 2 then
  if h.pos == 16 then done (gF c h).1 (gF c h).2 else if h.pos == 17 then (if c.sent≤h.grow then done c (dC h) else done c { h with pos:=18 })
  else if h.pos == 18 then lF c h else if h.pos == 19 then gz c h else if h.pos == 20 then qY c h
  else if h.pos == 21 then done (bP c h.grow 2) (dC h) else done (bP c h.grow 9) { h with pos:=16 }
 else nothing
def jf (c:Ch) (h:Ha):St :=
 if eF c h.mine == 0 then (c,h,false) else if eF c h.mine == 2 then done c { h with pos:=25 }
 else if h.code == 1 then done c (aP 1 0) else done c { h with pos:=24 }
def wZ (h:Ha):Int:=if h.code == 1 then 9 else 10
def bU (c:Ch) (h:Ha):St :=
 if bf c h 23 25 0 && (kF c h.mine && !(h.pos == 24 && h.code == 1)) then
  if h.pos == 23 then jf c h else if h.pos == 24 then done c (aP 2 (cellAt c h.cell).e) else done (bP c h.cell (wZ h)) (aP 3 0)
 else nothing
def iH (c:Ch) (h:Ha):St :=
 if dm h.pos 1 8 then aZ c h else if dm h.pos 9 15 then bg c h else if dm h.pos 16 22 then bH c h else bU c h
end
section
structure De where
 task:Int
 code:Int
 elem:Int
 beg:Int
 fin:Int
 reply:Int
 out:Int
structure Wo where
 ch:Ch
 hands:List Ha
 deals:List De
 now:Int
def Wo.zero:Wo:=⟨Ch.zero,[],[],0⟩
def De.zero:De:=⟨0,0,0,0,0,0,0⟩
def kG (n:Nat) (who:Int):Bool:=dm who 0 ((n:Int) - 1)
def iX (n:Nat) (now:Int) (d:De):Bool:=kG n d.task && (ng d.code d.elem d.reply && (dm d.beg 0 now && (dm d.fin 0 now && dm d.out 0 999)))
def eH (now:Int) (h:Ha):Bool:=bW h && decide (h.beg≤now)
def fV (x:Wo):Bool:=aK x.ch && (decide (1≤x.hands.length) && (decide (x.hands.length≤6) && (decide (x.deals.length≤1000) && dm x.now 0 20000)))
def bJ (x:Wo):Bool:=fV x && (x.hands.all (eH x.now) && x.deals.all (iX x.hands.length x.now))
def jg (cap tasks:Int):Wo × Bool:=if dm cap 0 4 && dm tasks 1 6 then (⟨fE cap,List.replicate tasks.toNat (aP 0 0),[],0⟩,true) else (Wo.zero,false)
def dH (x:Wo) (who:Int):Ha:=x.hands.getD who.toNat Ha.zero
def jl (x:Wo) (who:Int) (h:Ha):Wo:={ x with hands:=x.hands.set who.toNat h }
def qZ (x:Wo) (who:Int):Bool:=kG x.hands.length who
def asked (x:Wo) (who k e:Int):Wo × Int :=
 if bJ x && qZ x who then
  if (called (dH x who) k e).2 != 0 then (x,(called (dH x who) k e).2) else if x.now == 20000 then (x,1)
  else ({ jl x who { (called (dH x who) k e).1 with beg:=x.now+1 } with now:=x.now+1 },0)
 else (Wo.zero,3)
end
section
open Go.RowKit
theorem Jc:(Tryz.prog.info? 49).map (fun i=>(i.zero,i.size,i.bytes))=some (some (.agg (aa Ha.zero)),14,112):=by kernel_rfl
theorem Jd:(Tryz.prog.info? 31).map (fun i=>(i.zero,i.size,i.bytes))=some (some (.agg (af Ch.zero (.slice none 0 0) (.slice none 0 0))),6,80):=by kernel_rfl
theorem aB (w:World):(zeroValue 49).run Tryz.prog w=.ok (.agg (aa Ha.zero)) w:=by
 obtain ⟨i,hi,hz,_⟩:=info_parts Jc
 have e:Tryz.prog.info? 49=some Tryz.t49:=by kernel_rfl
 obtain rfl:Tryz.t49=i:=by rw [e] at hi;exact Option.some.inj hi
 simp [zeroValue,go_sem,hz]
theorem aU (w:World):(zeroValue 31).run Tryz.prog w=.ok (.agg (af Ch.zero (.slice none 0 0) (.slice none 0 0))) w:=by
 obtain ⟨i,hi,hz,_⟩:=info_parts Jd
 have e:Tryz.prog.info? 31=some Tryz.t31:=by kernel_rfl
 obtain rfl:Tryz.t31=i:=by rw [e] at hi;exact Option.some.inj hi
 simp [zeroValue,go_sem,hz]
theorem Me (w:World):(isAgg 49).run Tryz.prog w=.ok true w:=by simp [isAgg,go_sem]
theorem Mf (w:World):(isAgg 31).run Tryz.prog w=.ok true w:=by simp [isAgg,go_sem]
theorem Je (w:World):(sizeOf 49).run Tryz.prog w=.ok 14 w:=by simp [go_sem]
theorem Fj (w:World):(sizeOf 31).run Tryz.prog w=.ok 6 w:=by simp [go_sem]
variable {w:World} {b:Nat}
theorem rf (h:okO 14 (hp w b)=true):(loadVar 49 ⟨b,0,none⟩).run Tryz.prog w=.ok (.agg (iF (hp w b))) w:=mI Me Je h
theorem rq (h:okO 6 (hp w b)=true):(loadVar 31 ⟨b,0,none⟩).run Tryz.prog w=.ok (.agg (iF (hp w b))) w:=mI Mf Fj h
theorem Jf (h:okO 14 (hp w b)=true):(Instr.loadAt 49 (.pointer (some ⟨b,0,none⟩))).run Tryz.prog w=.ok (.agg (iF (hp w b))) w:=by
 simp only [Instr.loadAt,Instr.sureAddr,Sem.run_bind,Sem.run_pure,Result.andThen_ok,rf h]
theorem Jg (h:okO 6 (hp w b)=true):(Instr.loadAt 31 (.pointer (some ⟨b,0,none⟩))).run Tryz.prog w=.ok (.agg (iF (hp w b))) w:=by
 simp only [Instr.loadAt,Instr.sureAddr,Sem.run_bind,Sem.run_pure,Result.andThen_ok,rq h]
theorem aG (x:Ha) (h:okO 14 (hp w b)=true):(Instr.storeAt 49 (.pointer (some ⟨b,0,none⟩)) (.agg (aa x))).run Tryz.prog w=.ok () (bY w b (aa x)):=by
 simp only [Instr.storeAt,Instr.sureAddr,Sem.run_bind,Sem.run_pure,Result.andThen_ok]
 exact wT Je h rfl (by simp [aa,Value.oneCell'])
theorem aN (c:Ch) (x y:Option Addr) (n p m q:Nat) (h:okO 6 (hp w b)=true):(Instr.storeAt 31 (.pointer (some ⟨b,0,none⟩)) (.agg (af c (.slice x n p) (.slice y m q)))).run Tryz.prog w=.ok () (bY w b (af c (.slice x n p) (.slice y m q))):=by
 simp only [Instr.storeAt,Instr.sureAddr,Sem.run_bind,Sem.run_pure,Result.andThen_ok]
 exact wT Fj h rfl (by simp [af,Value.oneCell'])
theorem au (x:Ha) (h:okO 14 (hp w b)=true):(storeCells ⟨b,0,none⟩ (aa x).toList).run Tryz.prog w=.ok () (bY w b (aa x)):=nV h rfl (by simp [aa,Value.oneCell'])
theorem aF (c:Ch) (x y:Option Addr) (n p m q:Nat) (h:okO 6 (hp w b)=true):(storeCells ⟨b,0,none⟩ (af c (.slice x n p) (.slice y m q)).toList).run Tryz.prog w=.ok () (bY w b (af c (.slice x n p) (.slice y m q))):=nV h rfl (by simp [af,Value.oneCell'])
def nP (x:Value):Sem Value:=Instr.loadAt 49 x
def Jh (x:Addr):Sem Value:=loadVar 49 x
theorem aL (x:Value):Instr.loadAt 49 x=nP x:=by unfold nP;simp
theorem aM (x:Addr):loadVar 49 x=Jh x:=by unfold Jh;simp
theorem Ji (h:okO 14 (hp w b)=true):(nP (.pointer (some ⟨b,0,none⟩))).run Tryz.prog w=.ok (.agg (iF (hp w b))) w:=Jf h
theorem Jj (h:okO 14 (hp w b)=true):(Jh ⟨b,0,none⟩).run Tryz.prog w=.ok (.agg (iF (hp w b))) w:=rf h
def Ac (x:Value):Sem Value:=Instr.loadAt 31 x
def Jk (x:Addr):Sem Value:=loadVar 31 x
theorem bB (x:Value):Instr.loadAt 31 x=Ac x:=by unfold Ac;simp
theorem bC (x:Addr):loadVar 31 x=Jk x:=by unfold Jk;simp
theorem Jl (h:okO 6 (hp w b)=true):(Ac (.pointer (some ⟨b,0,none⟩))).run Tryz.prog w=.ok (.agg (iF (hp w b))) w:=Jg h
theorem Jm (h:okO 6 (hp w b)=true):(Jk ⟨b,0,none⟩).run Tryz.prog w=.ok (.agg (iF (hp w b))) w:=rq h
theorem aj (x:Ha) (h:hp w b=some (.cells (aa x) 49)):(loadVar 49 ⟨b,0,none⟩).run Tryz.prog w=.ok (.agg (aa x)) w:=by
 have:=rf (w:=w) (b:=b) (by rw [h];simp [okO,oF])
 rw [h] at this
 exact this
theorem az (c:Ch) (x y:Value) (h:hp w b=some (.cells (af c x y) 31)):(loadVar 31 ⟨b,0,none⟩).run Tryz.prog w=.ok (.agg (af c x y)) w:=by
 have:=rq (w:=w) (b:=b) (by rw [h];simp [okO,Ff])
 rw [h] at this
 exact this
attribute [go_sem] Ji Jj aC tu C9 CB CE CF CG FX zX vC Ja CJ Mc Md zY vD fF FY FZ FW qp vB eO Option.map_some Rh Ri Rj Rk Pv oF xR Li Lj Ll Lm Lp Lr Ls Lu Lv Lx L6 L8 L9 LA LC LD LF LG LH IP IQ IU IV IW IX IY IZ
attribute [go_sem] Jl Jm Pw Ff LJ LK LM LP LQ LU LV LW LX LZ LY Ma
end
section
open Go.RowKit
def iY (d:De):Array Value:=#[.int .i64 d.task,.int .i64 d.code,.int .i64 d.elem,.int .i64 d.beg,.int .i64 d.fin,.int .i64 d.reply,.int .i64 d.out]
def jU (hs:List Ha):List Value:=hs.flatMap fun h=>(aa h).toList
def jV (ds:List De):List Value:=ds.flatMap fun d=>(iY d).toList
def fI (hs:List Ha) (i j:Nat):Value:=(aa (hs.getD i Ha.zero)).getD j (.int .i64 0)
def nW (ds:List De) (i j:Nat):Value:=(iY (ds.getD i De.zero)).getD j (.int .i64 0)
abbrev Jn (w:World) (B:Nat) (a:Option Addr) (hs:List Ha):Prop:=Seg w B a hs.length 14 (fI hs)
abbrev Jo (w:World) (B:Nat) (a:Option Addr) (ds:List De):Prop:=Seg w B a ds.length 7 (nW ds)
abbrev xc (x:Wo) (a b d e:Option Addr) (p q r s:Nat):Value:=.agg #[.int .i64 x.ch.cap,.int .i64 x.ch.sent,.int .i64 x.ch.got,.int .i64 x.ch.fin,.slice a x.ch.cells.length p,.slice b x.ch.words.length q,.slice d x.hands.length r,.slice e x.deals.length s,.int .i64 x.now]
theorem jw (hs:List Ha):(jU hs).length=hs.length*14:=by
 induction hs with
 | nil=>rfl
 | cons c cs ih=>simp [jU,aa] at *;omega
theorem oH (ds:List De):(jV ds).length=ds.length*7:=by
 induction ds with
 | nil=>rfl
 | cons c cs ih=>simp [jV,iY] at *;omega
theorem jy:∀ (hs:List Ha) (i j:Nat),i<hs.length→j<14→(jU hs)[i*14+j]?=some (fI hs i j)
 | [],i,j,hi,_=>by simp at hi
 | c :: cs,0,j,_,hj=>by
  have e:jU (c :: cs)=(aa c).toList ++ jU cs:=by simp [jU]
  rw [e,List.getElem?_append_left (by simp [oF];omega)]
  simp [fI,Array.getD,oF,hj]
 | c :: cs,i+1,j,hi,hj=>by
  have h:=jy cs i j (by simpa using hi) hj
  have e:jU (c :: cs)=(aa c).toList ++ jU cs:=by simp [jU]
  rw [e,List.getElem?_append_right (by simp [oF];omega)]
  have e2:(i+1)*14+j - (aa c).toList.length=i*14+j:=by simp [oF];omega
  rw [e2,h]
  simp [fI]
theorem mJ:∀ (hs:List De) (i j:Nat),i<hs.length→j<7→(jV hs)[i*7+j]?=some (nW hs i j)
 | [],i,j,hi,_=>by simp at hi
 | c :: cs,0,j,_,hj=>by
  have e:jV (c :: cs)=(iY c).toList ++ jV cs:=by simp [jV]
  rw [e,List.getElem?_append_left (by simp [iY];omega)]
  simp [nW,Array.getD,iY,hj]
 | c :: cs,i+1,j,hi,hj=>by
  have h:=mJ cs i j (by simpa using hi) hj
  have e:jV (c :: cs)=(iY c).toList ++ jV cs:=by simp [jV]
  rw [e,List.getElem?_append_right (by simp [iY];omega)]
  have e2:(i+1)*7+j - (iY c).toList.length=i*7+j:=by simp [iY];omega
  rw [e2,h]
  simp [nW]
theorem Ga (hs:List Ha):∀ u ∈ jU hs,u.oneCell'=true:=by
 intro u hu
 simp only [jU,List.mem_flatMap] at hu
 obtain ⟨c,_,hc⟩:=hu
 simp [aa] at hc
 rcases hc with rfl|rfl|rfl|rfl|rfl|rfl|rfl|rfl|rfl|rfl|rfl|rfl|rfl|rfl <;> rfl
theorem Gb (hs:List De):∀ u ∈ jV hs,u.oneCell'=true:=by
 intro u hu
 simp only [jV,List.mem_flatMap] at hu
 obtain ⟨c,_,hc⟩:=hu
 simp [iY] at hc
 rcases hc with rfl|rfl|rfl|rfl|rfl|rfl|rfl <;> rfl
abbrev gG (w:World) (lo:Nat) (v:Value) (hs:List Ha):Prop:=w.ownsRow lo 49 14 v hs.length (jU hs)
abbrev jb (w:World) (lo:Nat) (v:Value) (ds:List De):Prop:=w.ownsRow lo 44 7 v ds.length (jV ds)
theorem qw {w:World} {lo:Nat} {t:TypeId} {n k:Nat} {v:Value} {xs:List Value} {f:Nat→Nat→Value} (h:w.ownsRow lo t k v n xs) (hf:∀ i j,i<n→j<k→xs[i*k+j]?=some (f i j)):∃ (a:Option Addr) (cap:Nat),v=.slice a n cap∧Seg w w.heap.size a n k f:=by
 rcases h.2 with ⟨rfl,h0⟩|⟨g,cap,cur,rfl,_,hg,_⟩
 ·exact ⟨none,0,by rw [h0],.inl h0⟩
 ·refine ⟨_,cap,rfl,.inr ⟨g,0,rfl,(Array.getElem?_eq_some_iff.1 hg).1,fun i j hi hj=>?_⟩⟩
  have:=h.cells (g:=g) rfl (i*k+j) _ (hf i j hi hj)
  rw [← this]
  congr 1
  by_cases e:i*k+j=0 <;> simp [Addr.add,e] <;> omega
theorem gG.seg {w:World} {lo:Nat} {v:Value} {hs:List Ha} (h:gG w lo v hs):∃ (a:Option Addr) (cap:Nat),v=.slice a hs.length cap∧Seg w w.heap.size a hs.length 14 (fI hs):=qw h fun i j hi hj=>jy hs i j hi hj
theorem jb.seg {w:World} {lo:Nat} {v:Value} {ds:List De} (h:jb w lo v ds):∃ (a:Option Addr) (cap:Nat),v=.slice a ds.length cap∧Seg w w.heap.size a ds.length 7 (nW ds):=qw h fun i j hi hj=>mJ ds i j hi hj
variable {w:World} {b o:Nat}
theorem nu (x:Ha) (h:∀ j,j<14→w.cell? ⟨b,o+j,none⟩=some ((aa x).getD j (.int .i64 0))):(nP (.pointer (some ⟨b,o,none⟩))).run Tryz.prog w=.ok (.agg (aa x)) w:=by
 have h0:=h 0 tO
 have h1:=h 1 tO
 have h2:=h 2 tO
 have h3:=h 3 tO
 have h4:=h 4 tO
 have h5:=h 5 tO
 have h6:=h 6 tO
 have h7:=h 7 tO
 have h8:=h 8 tO
 have h9:=h 9 tO
 have h10:=h 10 tO
 have h11:=h 11 tO
 have h12:=h 12 tO
 have OY:=h 13 tO
 simp [aa,Array.getD] at h0 h1 h2 h3 h4 h5 h6 h7 h8 h9 h10 h11 h12 OY
 simp [nP,aa,go_sem, *]
end
section
open Go.RowKit
theorem fQ (n m k:Int) (w:World):Calls Tryz.prog 121 #[.int .i64 n,.int .i64 m,.int .i64 k] w fun e w'=>e=.returned (.bool (dm n m k))∧w=w':=by
 go_enter Tryz.func121,Tryz.ntmps121
 go_wp2
 all_goals go_ret
 ·exact ⟨bF (IC ‹_›),rfl⟩
 ·exact ⟨bF (sQ (.inl ‹_›)).symm,rfl⟩
theorem rM (n:Int) (w:World):Calls Tryz.prog 171 #[.int .i64 n] w fun r w'=>r=.returned (.bool (dm n 0 10))∧w=w':=by
 go_enter Tryz.func171,Tryz.ntmps171
 go_wp2_with (go_at_call 121;refine (fQ _ _ _ _).mono ?_;rintro _ _ ⟨rfl,rfl⟩)
 go_ret
 exact ⟨rfl,rfl⟩
theorem lG (n:Int) (w:World):Calls Tryz.prog 122 #[.int .i64 n] w fun r w'=>r=.returned (.bool (dm n 0 999))∧w=w':=by
 go_enter Tryz.func122,Tryz.ntmps122
 go_wp2_with (go_at_call 121;refine (fQ _ _ _ _).mono ?_;rintro _ _ ⟨rfl,rfl⟩)
 go_ret
 exact ⟨rfl,rfl⟩
theorem kH (s e t:Int) (w:World):Calls Tryz.prog 162 #[.agg #[.int .i64 s,.int .i64 e,.int .i64 t]] w fun r w'=>r=.returned (.bool (jv s e t))∧Below w.heap.size w w':=by
 go_enter Tryz.func162,Tryz.ntmps162
 go_wp2_with (first|(go_at_call 171;refine (rM _ _).mono ?_;rintro _ _ ⟨rfl,rfl⟩)|(go_at_call 122;refine (lG _ _).mono ?_;rintro _ _ ⟨rfl,rfl⟩)|(go_at_call 121;refine (fQ _ _ _ _).mono ?_;rintro _ _ ⟨rfl,rfl⟩))
 all_goals go_ret
 all_goals refine ⟨bF ?_,by exact zB⟩
 ·exact EX ‹_› ‹_›
 ·exact EW ‹_›
 ·exact EU ‹_›
end
section
open Go.RowKit
theorem rO (k e:Int) (w:World):Calls Tryz.prog 170 #[.agg #[.int .i64 k,.int .i64 e]] w fun r w'=>r=.returned (.bool (dO k e))∧Below w.heap.size w w':=by
 go_enter Tryz.func170,Tryz.ntmps170
 go_wp2_with (go_at_call 122;refine (lG _ _).mono ?_;rintro _ _ ⟨rfl,rfl⟩)
 all_goals go_ret
 all_goals exact ⟨bF (by simp_all [dO]),by exact zB⟩
theorem xU (k e x:Int) (w:World):Calls Tryz.prog 120 #[.agg #[.int .i64 k,.int .i64 e],.int .i64 x] w fun r w'=>r=.returned (.bool (ng k e x))∧Below w.heap.size w w':=by
 go_enter Tryz.func120,Tryz.ntmps120
 go_wp2_with (first|(go_at_call 170;refine (rO _ _ _).mono ?_;rintro _ w1 ⟨rfl,ah⟩;have hBw1:Below w.heap.size w w1:=bT zB ah;have ay:=ah.size;(try (simp at ay));have:=fun o=>ah.cell (p:=⟨w.heap.size,o,none⟩) (by ((try simp);(try omega)));have:=fun o=>ah.frozen (p:=⟨w.heap.size,o,none⟩) (by ((try simp);(try omega)));have:w.heap.size<w1.heap.size:=tO;have:w.heap.size≤w1.heap.size:=tO;have:w.heap.size≤w1.heap.size+1:=tO)|(go_at_call 121;refine (fQ _ _ _ _).mono ?_;rintro _ _ ⟨rfl,rfl⟩))
 all_goals go_ret
 all_goals exact ⟨bF (by simp_all [ng]),by exact zB⟩
theorem CL (k e:Int) (w:World):Calls Tryz.prog 169 #[.agg #[.int .i64 k,.int .i64 e]] w fun r w'=>r=.returned (.bool (qW k e))∧Below w.heap.size w w':=by
 go_enter Tryz.func169,Tryz.ntmps169
 go_wp2
 all_goals go_ret
 all_goals exact ⟨bF (by simp_all [qW]),by exact zB⟩
end
section
open Go.RowKit
theorem nX (n:Int) (w:World):Calls Tryz.prog 161 #[.int .i64 n] w fun r w'=>r=.returned (.bool (dm n 0 40))∧w=w':=by
 go_enter Tryz.func161,Tryz.ntmps161
 go_wp2_with (go_at_call 121;refine (fQ _ _ _ _).mono ?_;rintro _ _ ⟨rfl,rfl⟩)
 go_ret
 exact ⟨rfl,rfl⟩
theorem Mg (cap sent got fin:Int) (cells:List C3) (words:List Int) (h:fq ⟨cap,sent,got,fin,cells,words⟩=false):false=aK ⟨cap,sent,got,fin,cells,words⟩:=by simp [aK,h]
theorem Jp {cap sent got fin:Int} {cells:List C3} {words:List Int} (h:fq ⟨cap,sent,got,fin,cells,words⟩=true) :
  dm cap 0 4=true∧dm sent 0 40=true∧dm got 0 40=true∧dm fin 0 40=true∧cells.length=40∧words.length≤80:=by
 simpa [fq] using h
theorem CO (cap sent got fin:Int) (cells:List C3) (words:List Int) (a b:Option Addr) (p q:Nat) (w:World) (h:fq ⟨cap,sent,got,fin,cells,words⟩=false) :
  Calls Tryz.prog 112 #[.agg #[.int .i64 cap,.int .i64 sent,.int .i64 got,.int .i64 fin,.slice a cells.length p,.slice b words.length q]] w fun r w'=>r=.returned (.bool (aK ⟨cap,sent,got,fin,cells,words⟩))∧Below w.heap.size w w':=by
 rw [← Mg _ _ _ _ _ _ h]
 have H:=Lib.hid h
 clear h
 go_enter Tryz.func112,Tryz.ntmps112
 go_wp2_with (first|(go_at_call 121;refine (fQ _ _ _ _).mono ?_;rintro _ _ ⟨rfl,rfl⟩)|(go_at_call 161;refine (nX _ _).mono ?_;rintro _ _ ⟨rfl,rfl⟩))
 all_goals first|(go_ret;exact ⟨rfl,by exact zB⟩)|skip
 exfalso
 have h:=H.out
 simp [fq, *] at h
 omega
theorem xe {cap sent got fin:Int} {cells:List C3} {words:List Int} {k:Nat} {c:C3} (hk:k<cells.length) (hc:cells.getD k ⟨0,0,0⟩=c) (h:fD words.length c=false):false=aK ⟨cap,sent,got,fin,cells,words⟩:=by
 have:cells.all (fD words.length)=false:=by
  rw [List.all_eq_false]
  refine ⟨cells[k],List.getElem_mem hk,?_⟩
  rw [← hc] at h
  simpa [List.getD,List.getElem?_eq_getElem hk] using h
 simp [aK,this]
theorem Gc {cap sent got fin:Int} {cells:List C3} {words:List Int} {k:Nat} {x:Int} (hk:k<words.length) (hc:words.getD k 0=x) (h:dm x 0 2=false):false=aK ⟨cap,sent,got,fin,cells,words⟩:=by
 have:words.all (fun x=>dm x 0 2)=false:=by
  rw [List.all_eq_false]
  refine ⟨words[k],List.getElem_mem hk,?_⟩
  rw [← hc] at h
  simpa [List.getD,List.getElem?_eq_getElem hk] using h
 simp [aK,this]
theorem tF {words:List Int} {k:Nat} {x:Int} (hk:k<words.length) (hc:words.getD k 0=x) (h:(words.take k).all (fun x=>dm x 0 2)=true) (h1:dm x 0 2=true):(words.take (k+1)).all (fun x=>dm x 0 2)=true:=by
 have e:words.take (k+1)=words.take k ++ [x]:=by
  rw [List.take_succ_eq_append_getElem hk,← hc];simp [List.getD,List.getElem?_eq_getElem hk]
 rw [e,List.all_append,h];simp [h1]
def fitsAt (words:List Int) (cells:List C3) (k:Nat):Prop:=(cells.take k).all (fD words.length)=true
theorem Jq {cap sent got fin:Int} {cells:List C3} {words:List Int} (h:fq ⟨cap,sent,got,fin,cells,words⟩=true) (h1:fitsAt words cells cells.length) (h2:(words.take words.length).all (fun x=>dm x 0 2)=true):true=aK ⟨cap,sent,got,fin,cells,words⟩:=by
 unfold fitsAt at h1
 rw [List.take_length] at h1 h2
 unfold aK
 rw [h,h1,h2];rfl
theorem Gd {words:List Int} {cells:List C3} {k:Nat} {c:C3} (hk:k<cells.length) (hc:cells.getD k ⟨0,0,0⟩=c) (h:fitsAt words cells k) (h1:fD words.length c=true):fitsAt words cells (k+1):=by
 unfold fitsAt at *
 rw [mY cells k hk,hc,List.all_append,h];simp [h1]
set_option linter.unusedSimpArgs false in
theorem Ad (cap sent got fin:Int) (cells:List C3) (words:List Int) (a b:Option Addr) (p q:Nat) (w:World) (h1:eY w w.heap.size a cells) (h2:eQ w w.heap.size b words) (h:fq ⟨cap,sent,got,fin,cells,words⟩=true) :
  Calls Tryz.prog 112 #[.agg #[.int .i64 cap,.int .i64 sent,.int .i64 got,.int .i64 fin,.slice a cells.length p,.slice b words.length q]] w fun r w'=>r=.returned (.bool (aK ⟨cap,sent,got,fin,cells,words⟩))∧Below w.heap.size w w':=by
 obtain ⟨i1,i2,i3,i4,i5,i6⟩:=Jp h
 have hl:((cells.length:Int) != 40)=false:=by simp;omega
 have hl0:cells.length≤40:=by omega
 have hw:decide (80<(words.length:Int))=false:=by simp;omega
 have H1:=Lib.hid h1
 have H2:=Lib.hid h2
 have HH:=Lib.hid h
 have I5:=Lib.hid i5
 clear h1 h2 h i5
 obtain ⟨b1,o1,rfl,hb1,hc1⟩:∃ b o,a=some ⟨b,o,none⟩∧b<w.heap.size∧Hid (∀ i j,i<cells.length→j<3→w.cell? ⟨b,o+i*3+j,none⟩=some (ib cells i j)):=by
  rcases H1.out with h0|h0
  ·exact absurd h0 (by have:=I5.out;omega)
  ·exact h0
 go_enter Tryz.func112,Tryz.ntmps112
 go_wp2_with (first|(go_at_call 121;refine (fQ _ _ _ _).mono ?_;rintro _ _ ⟨rfl,rfl⟩)|(go_at_call 161;refine (nX _ _).mono ?_;rintro _ _ ⟨rfl,rfl⟩))
 go_loopw [3] (fun i wr=>∃ k:Nat,k≤cells.length∧i=.int .i64 k∧fitsAt words cells k∧(∀ o,wr.cell? ⟨w.heap.size,o,none⟩=#[Value.int .i64 cap,.int .i64 sent,.int .i64 got,.int .i64 fin,.slice (some ⟨b1,o1,none⟩) cells.length p,.slice b words.length q][o]?)∧w.heap.size<wr.heap.size∧Below w.heap.size w wr) (fun i _=>cells.length - (intOf i).toNat)
 case atStart=>exact ⟨0,Nat.zero_le _,rfl,rfl,fun o=>by simp,by simp,by exact zB⟩
 case round =>
  obtain ⟨k,hk,rfl,hfit,hbx,hlt1,hB⟩:=hrel
  by_cases hlt:k<cells.length
  ·have c0:=(hB.cell (p:=⟨b1,o1+k*3+0,none⟩) hb1).trans (hc1.out k 0 hlt tO)
   have c1:=(hB.cell (p:=⟨b1,o1+k*3+1,none⟩) hb1).trans (hc1.out k 1 hlt tO)
   have c2:=(hB.cell (p:=⟨b1,o1+k*3+2,none⟩) hb1).trans (hc1.out k 2 hlt tO)
   simp only [ib,C3.val,Nat.add_zero] at c0 c1 c2
   generalize hcg:cells.getD k ⟨0,0,0⟩=c at c0 c1 c2
   have HC:=Lib.hid hcg
   clear hcg
   have x4:=hbx 4
   have x5:=hbx 5
   simp at x4 x5
   have hk0:(0:Int)≤(k:Int):=by omega
   have hk1:(k:Int)<(cells.length:Int):=by omega
   by_cases hok:jv c.s c.e c.t=true
   ·go_wp2_with fail
    go_region_held3 (fun w'=>w'.cell? ⟨w.heap.size,4,none⟩=some (.slice (some ⟨b1,o1,none⟩) cells.length p)∧w'.cell? ⟨w.heap.size,5,none⟩=some (.slice b words.length q)∧w'.cell? ⟨b1,o1+k*3,none⟩=some (.int .i64 c.s)∧w'.cell? ⟨b1,o1+k*3+1,none⟩=some (.int .i64 c.e)∧w'.cell? ⟨b1,o1+k*3+2,none⟩=some (.int .i64 c.t))
     (first|(simp [*,go_sem]))
     (first|(go_at_call 162;refine (kH _ _ _ _).mono ?_;rintro _ w7 ⟨rfl,rP⟩;have Jr:Below w.heap.size w w7:=bT zB rP;have:=rP.cell (p:=⟨w.heap.size,4,none⟩) (by simp;omega);have:=rP.cell (p:=⟨w.heap.size,5,none⟩) (by simp;omega);have:=rP.cell (p:=⟨b1,o1+k*3,none⟩) (by simp;omega);have:=rP.cell (p:=⟨b1,o1+k*3+1,none⟩) (by simp;omega);have:=rP.cell (p:=⟨b1,o1+k*3+2,none⟩) (by simp;omega);have hx7:=fun o=>(rP.cell (p:=⟨w.heap.size,o,none⟩) (by simp;omega)).trans (hbx o);have hs7:=rP.size;simp at hs7))
    by_cases hct:(words.length:Int)<c.t
    ·go_wp2
     go_ret
     exact ⟨bF (xe hlt HC.out (by simp [fD,OV,hok];omega)),Jr⟩
    ·go_wp2
     go_roundw
     case rel=>exact ⟨k+1,by omega,by go_num,Gd hlt HC.out hfit (by simp [fD,OV,hok];omega),hx7,by omega,Jr⟩
     case measure=>simp [intOf];omega
   ·have hok2:jv c.s c.e c.t=false:=by simpa using hok
    clear hok x5
    go_wp2_with fail
    refine wp_region_held_drew (S:=fun w'=>w'.cell? ⟨w.heap.size,4,none⟩=some (.slice (some ⟨b1,o1,none⟩) cells.length p)∧w'.cell? ⟨b1,o1+k*3,none⟩=some (.int .i64 c.s)∧w'.cell? ⟨b1,o1+k*3+1,none⟩=some (.int .i64 c.e)∧w'.cell? ⟨b1,o1+k*3+2,none⟩=some (.int .i64 c.t)) (by kernel_rfl) (by simp [*,go_sem]) (fun hS0=>?_)
    refine mT (i:=0) (oi:=⟨some 46,_,_,_,_,_⟩) rfl ?_;(try simp only [Act.put,List.setIfInBounds_toArray,List.set_cons_zero,List.set_cons_succ])
    refine mT (i:=1) (oi:=⟨some 47,_,_,_,_,_⟩) rfl ?_;(try simp only [Act.put,List.setIfInBounds_toArray,List.set_cons_zero,List.set_cons_succ])
    refine mT (i:=2) (oi:=⟨some 48,_,_,_,_,_⟩) rfl ?_;(try simp only [Act.put,List.setIfInBounds_toArray,List.set_cons_zero,List.set_cons_succ])
    refine mT (i:=3) (oi:=⟨some 49,_,_,_,_,_⟩) rfl ?_;(try simp only [Act.put,List.setIfInBounds_toArray,List.set_cons_zero,List.set_cons_succ])
    refine mT (i:=4) (oi:=⟨some 50,_,_,_,_,_⟩) rfl ?_;(try simp only [Act.put,List.setIfInBounds_toArray,List.set_cons_zero,List.set_cons_succ])
    refine wpAnyH_ready (rs:=[5]) (by kernel_rfl) (by simp) ?_
    refine AllReadyH.cons (o:=⟨some 51,_,_,_,_,_⟩) rfl (fun K hK=>?_) AllReadyH.nil
    go_simp
    go_at_call 162
    refine (kH _ _ _ _).mono ?_
    rintro _ w7 ⟨rfl,rP⟩
    have Jr:Below w.heap.size w w7:=bT zB rP
    rw [hok2]
    refine hK.out _ _ ?_ (fun Vv=>?_)
    ·refine ⟨(rP.cell (by simp;omega)).trans x4,(rP.cell (by simp;omega)).trans c0,(rP.cell (by simp;omega)).trans c1,(rP.cell (by simp;omega)).trans c2⟩
    clear hK
    (try simp only [Act.put,List.setIfInBounds_toArray,List.set_cons_zero,List.set_cons_succ])
    refine mT (i:=6) (oi:=⟨some 52,_,_,_,_,_⟩) rfl ?_;(try simp only [Act.put,List.setIfInBounds_toArray,List.set_cons_zero,List.set_cons_succ])
    refine mT (i:=7) (oi:=⟨some 53,_,_,_,_,_⟩) rfl ?_;(try simp only [Act.put,List.setIfInBounds_toArray,List.set_cons_zero,List.set_cons_succ])
    refine mS (i:=8) (oi:=⟨some 54,_,_,_,_,_⟩) rfl ?_;(try simp only [Act.put,List.setIfInBounds_toArray,List.set_cons_zero,List.set_cons_succ])
    refine mS (i:=9) (oi:=⟨some 55,_,_,_,_,_⟩) rfl ?_;(try simp only [Act.put,List.setIfInBounds_toArray,List.set_cons_zero,List.set_cons_succ])
    refine mS (i:=10) (oi:=⟨some 56,_,_,_,_,_⟩) rfl ?_;(try simp only [Act.put,List.setIfInBounds_toArray,List.set_cons_zero,List.set_cons_succ])
    refine mS (i:=11) (oi:=⟨some 57,_,_,_,_,_⟩) rfl ?_;(try simp only [Act.put,List.setIfInBounds_toArray,List.set_cons_zero,List.set_cons_succ])
    refine mS (i:=12) (oi:=⟨some 58,_,_,_,_,_⟩) rfl ?_;(try simp only [Act.put,List.setIfInBounds_toArray,List.set_cons_zero,List.set_cons_succ])
    refine mS (i:=13) (oi:=⟨some 59,_,_,_,_,_⟩) rfl ?_;(try simp only [Act.put,List.setIfInBounds_toArray,List.set_cons_zero,List.set_cons_succ])
    refine mS (i:=14) (oi:=⟨some 60,_,_,_,_,_⟩) rfl ?_;(try simp only [Act.put,List.setIfInBounds_toArray,List.set_cons_zero,List.set_cons_succ])
    refine mS (i:=15) (oi:=⟨some 61,_,_,_,_,_⟩) rfl ?_;(try simp only [Act.put,List.setIfInBounds_toArray,List.set_cons_zero,List.set_cons_succ])
    refine mS (i:=16) (oi:=⟨some 62,_,_,_,_,_⟩) rfl ?_;(try simp only [Act.put,List.setIfInBounds_toArray,List.set_cons_zero,List.set_cons_succ])
    refine mS (i:=17) (oi:=⟨some 63,_,_,_,_,_⟩) rfl ?_;(try simp only [Act.put,List.setIfInBounds_toArray,List.set_cons_zero,List.set_cons_succ])
    refine mT (i:=18) (oi:=⟨some 64,_,_,_,_,_⟩) rfl ?_;(try simp only [Act.put,List.setIfInBounds_toArray,List.set_cons_zero,List.set_cons_succ])
    refine wpAnyH_done (by kernel_rfl) ?_ _
    go_wp2
    go_ret
    exact ⟨bF (xe hlt HC.out (by simp [fD,OV,hok2])),Jr⟩
  ·have:k=cells.length:=by omega
   subst this
   go_wp2
   go_loopw [4] (fun i wr=>∃ k:Nat,k≤words.length∧i=.int .i64 k∧Hid ((words.take k).all (fun x=>dm x 0 2)=true)∧(∀ o,wr.cell? ⟨w.heap.size,o,none⟩=#[Value.int .i64 cap,.int .i64 sent,.int .i64 got,.int .i64 fin,.slice (some ⟨b1,o1,none⟩) cells.length p,.slice b words.length q][o]?)∧w.heap.size<wr.heap.size∧Below w.heap.size w wr) (fun i _=>words.length - (intOf i).toNat)
   case atStart=>exact ⟨0,Nat.zero_le _,rfl,rfl,hbx,hlt1,hB⟩
   case round =>
    clear hbx hlt1 hB hk
    obtain ⟨k,hk,rfl,hall,hbx,hlt1,hB⟩:=hrel
    have x5:=hbx 5
    simp at x5
    by_cases hlt:k<words.length
    ·obtain h0|⟨b2,o2,rfl,hb2,hc2⟩:=H2.out
     ·omega
     have c0:=(hB.cell (p:=⟨b2,o2+k*1+0,none⟩) hb2).trans (hc2 k 0 hlt tO)
     simp only [gX,Nat.add_zero,Nat.mul_one] at c0
     clear hc2
     generalize hcg:words.getD k 0=x at c0
     have HC:=Lib.hid hcg
     clear hcg
     go_wp2_with (go_at_call 121;refine (fQ _ _ _ _).mono ?_;rintro _ _ ⟨rfl,rfl⟩)
     ·go_ret
      exact ⟨bF (Gc hlt HC.out (not_true ‹_›)),hB⟩
     ·go_roundw
      case rel=>exact ⟨k+1,by omega,by go_num,tF hlt HC.out hall.out (not_false ‹_›),hbx,hlt1,hB⟩
      case measure=>simp [intOf];omega
    ·have:k=words.length:=by omega
     subst this
     go_wp2
     go_ret
     exact ⟨bF (Jq HH.out hfit hall.out),hB⟩
theorem kI (c:Ch) (a b:Option Addr) (p q:Nat) (w:World) (h1:eY w w.heap.size a c.cells) (h2:eQ w w.heap.size b c.words) :
  Calls Tryz.prog 112 #[.agg #[.int .i64 c.cap,.int .i64 c.sent,.int .i64 c.got,.int .i64 c.fin,.slice a c.cells.length p,.slice b c.words.length q]] w fun r w'=>r=.returned (.bool (aK c))∧Below w.heap.size w w':=by
 obtain ⟨cap,sent,got,fin,cells,words⟩:=c
 by_cases h:fq ⟨cap,sent,got,fin,cells,words⟩=true
 ·exact Ad cap sent got fin cells words a b p q w h1 h2 h
 ·exact CO cap sent got fin cells words a b p q w (by simpa using h)
end
end Go.Proofs.YtffhjmepfojhnaaGreat
