/-
  Small lemmas on worlds, lists in memory and cells; no condition.
-/
import Derived.Test.YtffhjmepfojhnaaGreatProg
import Derived.WalkKit
import Derived.WalkSpells
import Derived.WalkLawsBesides
import Derived.Lib.Hide
import Derived.BigQuiet
import Derived.Deep.QuietTactic
import Derived.Deep.RegionHeld3
import Derived.StillTailTactics
import Derived.Laws.AppendOwnNone
import Derived.Laws.IdiomCopy
set_option maxRecDepth 100000
set_option maxHeartbeats 2000000
set_option linter.unusedSimpArgs false
set_option linter.unusedVariables false
namespace Go.Proofs.YtffhjmepfojhnaaGreat
open _root_.Go.Proofs.Tryz
instance : Coe World Nat := ⟨fun w => w.heap.size⟩
instance {α : Type} : CoeOut (List α) Nat := ⟨List.length⟩
instance : Coe Int Value := ⟨fun x => .int .i64 x⟩
theorem aA {p:Prop} (h:p):RowKit.Hid p:=Lib.hid h
theorem bW:(∀ (a:Act) (i:Tmp) (v:Value),a.put (some i) v={a with tmps:=a.tmps.setIfInBounds i v})∧(∀ (a:Act) (v:Value),a.put none v=a)∧(∀ (l:List Value) (i:Nat) (v:Value),l.toArray.setIfInBounds i v=(l.set i v).toArray)∧(∀ (a b:Value) (l:List Value),(a :: l).set 0 b=b :: l)∧(∀ (a b:Value) (l:List Value) (n:Nat),(a :: l).set (n+1) b=a :: l.set n b):=⟨fun _ _ _=>rfl,fun _ _=>rfl,fun _ _ _=>by simp,fun _ _ _=>rfl,fun _ _ _ _=>rfl⟩
section
open Go.RowKit
theorem bR {n:Nat} {w:World}:Below n w w:=Below.refl _ _
theorem aK {P:Program} {f:FuncId} {args:Array Value} {W:World} {Q:Ending→World→Prop} (w:World) (h:Below w w W) (k:Below w w W→Calls P f args W Q):Calls P f args W Q:=k h
theorem bA {w W:World} {o:Obj} (h:Below w w W):Below w w (W.alloc o):=h.alloc h.size o
theorem bD {w W:World} (h:Below w w W):Below w w W.drew:=h.drew
theorem bS {w W:World} {p:Addr} {u:Value} (h:Below w w W) (hp:w.heap.size≤p.block):Below w w (W.setCell p u):=h.setCell hp u
theorem bT {w W m:World} (h:Below w w W) (k:Below W W m):Below w w m:=h.trans (k.mono h.size)
theorem dB {a b:Bool} (h:a=b):Ending.returned (.bool a)=.returned (.bool b):=by rw [h]
def dA (n lo hi:Int):Bool:=decide (lo≤n) && decide (n≤hi)
theorem lu {n lo m:Int} (h1:lo≤n) (q:n≤m):dA n lo m=true:=by simp [dA,h1,q]
theorem vw {n lo m:Int} (h:n<lo∨m<n):dA n lo m=false:=by simp [dA];omega
theorem Kw {n lo m:Int} (h:lo≤n):decide (n≤m)=dA n lo m:=by simp [dA,h]
theorem iP {n lo m:Int}:dA n lo m=true↔lo≤n∧n≤m:=by simp [dA]
def ku (s e t:Int):Bool:=dA s 0 10 && dA e 0 999 && dA t 0 80
theorem GU {s e t:Int} (h:¬ dA s 0 10=true):false=ku s e t:=by simp [ku,h]
theorem GV {s e t:Int} (h:¬ dA e 0 999=true):false=ku s e t:=by simp [ku,h]
theorem GX {s e t:Int} (h:dA s 0 10=true) (m:dA e 0 999=true):dA t 0 80=ku s e t:=by simp [ku,h,m]
def mE (s e t m:Int):Int:=if ku s e t && dA m 0 999 then m else e
theorem GY {s e t m:Int} (h:¬ ku s e t=true):mE s e t m=e:=by simp [mE,h]
theorem GZ {s e t m:Int} (h:(!dA m 0 999)=true):mE s e t m=e:=by simp at h;simp [mE,h]
theorem Hd {s e t m:Int} (h1:ku s e t=true) (h:(!dA m 0 999)=false):mE s e t m=m:=by simp at h;simp [mE,h1,h]
def jS (s e t f n v:Int):Bool:=s == f && (ku s e t && ku n e v)
def ng (s e t f n v:Int):Int:=if jS s e t f n v then n else s
def vz (s e t f n v:Int):Int:=if jS s e t f n v then v else t
theorem Ky {s e t f n v:Int} (h:¬ s=f):jS s e t f n v=false:=by simp [jS,h]
theorem zT {s e t f n v:Int} (h:¬ ku s e t=true):jS s e t f n v=false:=by simp [jS,h]
theorem Kz {s e t f n v:Int} (h:(!ku n e v)=true):jS s e t f n v=false:=by simp at h;simp [jS,h]
theorem K5 {s e t n v:Int} (h1:ku s e t=true) (h:(!ku n e v)=false):jS s e t s n v=true:=by simp at h;simp [jS,h,h1]
def uh (s e t f n v:Int) (r:Ending):Prop:=r=.returned (.tuple #[.agg #[.int .i64 (ng s e t f n v),.int .i64 e,.int .i64 (vz s e t f n v)],.bool (jS s e t f n v)])
theorem rT {s e t f n v:Int} (h:jS s e t f n v=false):uh s e t f n v (.returned (.tuple #[.agg #[.int .i64 s,.int .i64 e,.int .i64 t],.bool false])):=by simp [uh,ng,vz,h]
theorem yH {s e t f n v:Int} (h:jS s e t f n v=true):uh s e t f n v (.returned (.tuple #[.agg #[.int .i64 n,.int .i64 e,.int .i64 v],.bool true])):=by simp [uh,ng,vz,h]
def Seg (w:World) (B:Nat) (a:Option Addr) (n k:Nat) (f:Nat→Nat→Value):Prop :=
 n=0∨∃ b o,a=some ⟨b,o,none⟩∧b<B∧∀ i j,i<n→j<k→w.cell? ⟨b,o+i*k+j,none⟩=some (f i j)
def Row (w:World) (b:Nat) (t:TypeId) (n k:Nat) (f:Nat→Nat→Value):Prop :=
 ∃ c:Array Value,w.heap[b]?=some (.cells c t (0,0))∧c.size=n*k∧∀ i j,i<n→j<k→c[i*k+j]?=some (f i j)
namespace Row
variable {w w':World} {b:Nat} {t:TypeId} {n k:Nat} {f g:Nat→Nat→Value}
theorem cell (h:Row w b t n k f) {i j:Nat} (r:i<n) (u:j<k):w.cell? ⟨b,i*k+j,none⟩=some (f i j):=by
 obtain ⟨c,m,_,q⟩:=h
 simp [World.cell?,m,q i j r u]
theorem frozen (h:Row w b t n k f) (o:Nat):w.frozen? ⟨b,o,none⟩=false:=by
 obtain ⟨c,m,_,_⟩:=h
 simp [World.frozen?,m]
theorem lt (h:Row w b t n k f):b<w.heap.size:=by
 obtain ⟨c,q,_,_⟩:=h
 obtain ⟨m,_⟩:=Array.getElem?_eq_some_iff.1 q
 exact m
theorem congr (h:Row w b t n k f) (e:∀ i j,i<n→j<k→f i j=g i j):Row w b t n k g:=by
 obtain ⟨c,r,y,u⟩:=h
 exact ⟨c,r,y,fun i j m q=>by rw [u i j m q,e i j m q]⟩
theorem of_block (h:Row w b t n k f) (e:w'.heap[b]?=w.heap[b]?):Row w' b t n k f:=by
 obtain ⟨c,m,r,q⟩:=h
 exact ⟨c,e.trans m,r,q⟩
theorem below {B:Nat} (h:Row w b t n k f) (q:Below B w w') (m:b<B):Row w' b t n k f:=h.of_block (q.block b m)
theorem idx {i j m q k:Nat} (y:j<k) (r:q<k) (h:i*k+j=m*k+q):i=m∧j=q:=by
 have h1:(i*k+j) / k=i:=by rw [Nat.mul_comm,Nat.mul_add_div (by omega),Nat.div_eq_of_lt y];rfl
 have u:(m*k+q) / k=m:=by rw [Nat.mul_comm,Nat.mul_add_div (by omega),Nat.div_eq_of_lt r];rfl
 have:i=m:=by rw [← h1,← u,h]
 subst this
 exact ⟨rfl,by omega⟩
theorem set (h:Row w b t n k f) {i j:Nat} (E:i<n) (A:j<k) (v:Value):Row (w.setCell ⟨b,i*k+j,none⟩ v) b t n k (fun m q=>if m=i∧q=j then v else f m q):=by
 obtain ⟨c,D,F,z⟩:=h
 refine ⟨c.setIfInBounds (i*k+j) v,?_,by simpa using F,fun m q u r=>?_⟩
 ·simp [World.setCell,Array.getElem?_modify,D]
 ·rw [Array.getElem?_setIfInBounds]
  by_cases e:i*k+j=m*k+q
  ·obtain ⟨rfl,rfl⟩:=idx A r e
   have y:i*k+j<c.size:=(Array.getElem?_eq_some_iff.1 (z i j E A)).1
   simp [y]
  ·rw [if_neg e]
   show c[m*k+q]?=some (if m=i∧q=j then v else f m q)
   rw [if_neg (fun h=>e (by rw [h.1,h.2]))]
   exact z m q u r
theorem alloc (h:Row w b t n k f) (o:Obj):Row (w.alloc o) b t n k f:=h.of_block (Below.heap_alloc w o b h.lt)
theorem setOther (h:Row w b t n k f) {a:Addr} (m:b≠a.block) (v:Value):Row (w.setCell a v) b t n k f:=h.of_block (Below.heap_setCell w a v b m)
theorem seg (h:Row w b t n k f):Seg w w (some ⟨b,0,none⟩) n k f:=.inr ⟨b,0,rfl,h.lt,fun i j m q=>by simpa using h.cell m q⟩
theorem made (w:World) (z:Array Value) (n:Nat) (t:TypeId):Row (w.alloc (.cells (madeCells z (n*z.size)) t)) w t n z.size (fun _ j=>z[j]!):=by
 refine ⟨_,heap_alloc_new w _,size_madeCells _ _,fun i j q r=>?_⟩
 have m:i*z.size+j<n*z.size:=by
  have:=Nat.mul_le_mul_right z.size (show i+1≤n from q)
  rw [Nat.add_mul] at this
  omega
 simp [madeCells,m,Nat.mod_eq_of_lt r]
end Row
theorem Seg.below {w w':World} {B:Nat} {a:Option Addr} {n k:Nat} {f:Nat→Nat→Value} (h:Seg w B a n k f) (r:Below B w w'):Seg w' B a n k f:=by
 rcases h with h|⟨b,o,q,m,u⟩
 ·exact .inl h
 ·exact .inr ⟨b,o,q,m,fun i j y z=>(r.cell (p:=⟨b,o+i*k+j,none⟩) m).trans (u i j y z)⟩
theorem Seg.more {w:World} {B m:Nat} {a:Option Addr} {n k:Nat} {f:Nat→Nat→Value} (h:Seg w B a n k f) (u:B≤m):Seg w m a n k f:=by
 rcases h with h|⟨b,o,r,q,y⟩
 ·exact .inl h
 ·exact .inr ⟨b,o,r,Nat.lt_of_lt_of_le q u,y⟩
theorem Seg.setOther {w:World} {B m:Nat} {a:Option Addr} {n k:Nat} {f:Nat→Nat→Value} {p:Addr} {u:Value} (h:Seg w B a n k f) (q:B≤m) (hp:B≤p.block):Seg (w.setCell p u) m a n k f:=by
 rcases h with h|⟨b,o,r,y,z⟩
 ·exact .inl h
 ·exact .inr ⟨b,o,r,Nat.lt_of_lt_of_le y q,fun i j A D=>(World.cell?_setCell_other _ _ _ _ (fun e=>by subst e;simp at hp;omega)).trans (z i j A D)⟩
structure C3 where
 s:Int
 e:Int
 t:Int
def C3.val (c:C3) (j:Nat):Value:=match j with|0=>.int .i64 c.s|1=>.int .i64 c.e|_=>.int .i64 c.t
def iq (cs:List C3) (i j:Nat):Value:=(cs.getD i ⟨0,0,0⟩).val j
def P7 (c:C3):Bool:=ku c.s c.e c.t
theorem not_true {b:Bool} (h:(!b)=true):b=false:=by simpa using h
theorem not_false {b:Bool} (h:(!b)=false):b=true:=by simpa using h
theorem PK {b:Bool} (h:¬ b=true):b=false:=by simpa using h
theorem ou {a b:Int} (h:a=b):Ending.returned (.int .i64 a)=.returned (.int .i64 b):=by rw [h]
theorem ow (cs:List C3) (k:Nat) (h:k<cs.length):cs.take (k+1)=cs.take k ++ [cs.getD k ⟨0,0,0⟩]:=by
 rw [List.take_succ_eq_append_getElem h];simp [List.getD,List.getElem?_eq_getElem h]
theorem zB {lo:Nat} {w W:World} (h:Below lo w W:=by (repeat (with_reducible first|assumption|exact bR|refine bA ?_|refine bD ?_|((first|refine bS ?_ ?_|refine BK ?_ ?_);rotate_left;focus (try simp) <;> (try omega))))):Below lo w W:=h
theorem tS {P:Prop} (h:P:=by (try simp) <;> omega):P:=h
theorem tO {P:Prop} (h:P:=by omega):P:=h
end
section
open Go.RowKit
theorem P8 {g b:Nat} {w m:World} (h:w.grownBy m (some g)) (q:b<w.heap.size) (r:b≠g) (o:Nat):m.cell? ⟨b,o,none⟩=w.cell? ⟨b,o,none⟩:=World.cell?_of_block (h.block b q (by simpa using r))
theorem P9 {g b:Nat} {w m:World} (h:w.grownBy m (some g)) (q:b<w.heap.size) (r:b≠g) (o:Nat):m.frozen? ⟨b,o,none⟩=w.frozen? ⟨b,o,none⟩:=World.frozen?_of_block (h.block b q (by simpa using r))
def jT (l:List Int) (i _j:Nat):Value:=.int .i64 (l.getD i 0)
abbrev fA (w:World) (B:Nat) (a:Option Addr) (cs:List C3):Prop:=Seg w B a cs.length 3 (iq cs)
abbrev fD (w:World) (B:Nat) (a:Option Addr) (l:List Int):Prop:=Seg w B a l.length 1 (jT l)
def jB (cs:List C3):List Value:=cs.flatMap fun c=>[.int .i64 c.s,.int .i64 c.e,.int .i64 c.t]
theorem jO (cs:List C3):(jB cs).length=cs.length*3:=by
 induction cs with
 | nil=>rfl
 | cons c cs ih=>simp [jB] at *;omega
theorem jf:∀ (cs:List C3) (i j:Nat),i<cs.length→j<3→(jB cs)[i*3+j]?=some (iq cs i j)
 | [],i,j,hi,_=>by simp at hi
 | c :: cs,0,j,_,hj=>by
  have:j=0∨j=1∨j=2:=by omega
  rcases this with rfl|rfl|rfl <;> simp [jB,iq,C3.val]
 | c :: cs,i+1,j,hi,hj=>by
  have h:=jf cs i j (by simpa using hi) hj
  have e:(i+1)*3+j=(i*3+j)+3:=by omega
  rw [e]
  simpa [jB,iq] using h
theorem yI (cs:List C3):∀ u ∈ jB cs,u.oneCell'=true:=by
 intro u q
 simp only [jB,List.mem_flatMap] at q
 obtain ⟨c,_,m⟩:=q
 simp at m
 rcases m with rfl|rfl|rfl <;> rfl
def ints (l:List Int):List Value:=l.map (Value.int .i64)
theorem BO (l:List Int):∀ u ∈ ints l,u.oneCell'=true:=by
 intro u m
 obtain ⟨x,_,rfl⟩:=List.mem_map.1 m
 rfl
theorem iN {w W m:World} {lo:Nat} {row:Option Nat} (h:Below lo w W) (r:W.grownBy m row) (q:lo≤W.heap.size) (u:∀ k,row=some k→lo≤k):Below lo w m:=h.grown r q u
abbrev aD (w:World) (lo:Nat) (v:Value) (cs:List C3):Prop:=w.ownsRow lo 93 3 v cs.length (jB cs)
abbrev aG (w:World) (lo:Nat) (v:Value) (l:List Int):Prop:=w.ownsRow lo 2 1 v l.length (ints l)
theorem aD.seg {w:World} {lo:Nat} {v:Value} {cs:List C3} (h:aD w lo v cs):∃ (a:Option Addr) (cap:Nat),v=.slice a cs.length cap∧Seg w w a cs.length 3 (iq cs):=by
 rcases h.2 with ⟨rfl,m⟩|⟨g,cap,q,rfl,_,r,_⟩
 ·exact ⟨none,0,by rw [m],.inl m⟩
 ·refine ⟨_,cap,rfl,.inr ⟨g,0,rfl,(Array.getElem?_eq_some_iff.1 r).1,fun i j u y=>?_⟩⟩
  have:=h.cells (g:=g) rfl (i*3+j) _ (jf cs i j u y)
  rw [← this]
  congr 1
  by_cases e:i*3+j=0 <;> simp [Addr.add,e] <;> omega
theorem aG.seg {w:World} {lo:Nat} {v:Value} {l:List Int} (h:aG w lo v l):∃ (a:Option Addr) (cap:Nat),v=.slice a l.length cap∧Seg w w a l.length 1 (jT l):=by
 rcases h.2 with ⟨rfl,q⟩|⟨g,cap,r,rfl,_,u,_⟩
 ·exact ⟨none,0,by rw [q],.inl q⟩
 ·refine ⟨_,cap,rfl,.inr ⟨g,0,rfl,(Array.getElem?_eq_some_iff.1 u).1,fun i j y z=>?_⟩⟩
  have m:j=0:=by omega
  subst m
  have:=h.cells (g:=g) rfl i (jT l i 0) (by simp [ints,jT,List.getD,y])
  rw [← this]
  congr 1
  by_cases e:i=0 <;> simp [Addr.add,e] <;> omega
theorem aG.snoc {w:World} {lo:Nat} {v:Value} {l:List Int} {x:Int} (h:w.ownsRow lo 2 1 v (l.length+1) (ints l ++ [.int .i64 x])):aG w lo v (l ++ [x]):=by
 have e:ints (l ++ [x])=ints l ++ [.int .i64 x]:=by simp [ints]
 unfold aG
 rw [e,List.length_append]
 exact h
theorem Seg.newsC {w:World} {B b o:Nat} {cs:List C3} (h:Seg w B (some ⟨b,o,none⟩) cs.length 3 (iq cs)):∀ j u,(jB cs)[j]?=some u→w.cell? ((⟨b,o,none⟩:Addr).add j)=some u:=by
 intro j u m
 have D:j<cs.length*3:=by rw [← jO];exact (List.getElem?_eq_some_iff.1 m).1
 rcases h with A|⟨z,E,e,_,y⟩
 ·omega
 ·simp at e
  obtain ⟨rfl,rfl⟩:=e
  have q:j=j / 3*3+j % 3:=by omega
  have h1:=jf cs (j / 3) (j % 3) tO tO
  rw [← q] at h1
  have r:=y (j / 3) (j % 3) tO tO
  rw [h1] at m
  simp at m
  rw [← m,← r]
  congr 1
  by_cases e:j=0 <;> simp [Addr.add,e] <;> omega
theorem Seg.newsI {w:World} {B b o:Nat} {l:List Int} (h:Seg w B (some ⟨b,o,none⟩) l.length 1 (jT l)):∀ j u,(ints l)[j]?=some u→w.cell? ((⟨b,o,none⟩:Addr).add j)=some u:=by
 intro j u q
 have m:j<l.length:=by have:=(List.getElem?_eq_some_iff.1 q).1;simpa [ints] using this
 rcases h with A|⟨z,D,e,_,y⟩
 ·omega
 ·simp at e
  obtain ⟨rfl,rfl⟩:=e
  have r:=y j 0 m tO
  have:u=jT l j 0:=by simp [ints,m] at q;simp [jT,List.getD,m,← q]
  rw [this,← r]
  congr 1
  by_cases e:j=0 <;> simp [Addr.add,e]
theorem nP (w:World) (lo:Nat) (e:TypeId) (k:Nat) (h:lo≤w.heap.size):(w.alloc (.cells #[] e)).ownsRow lo e k (.slice (some ⟨w,0,none⟩) 0 0) 0 [] :=
 World.ownsRow_made w #[] 0 h (by simp) (by simp)
theorem gJ (w:World) (lo:Nat) (e:TypeId) (k n:Nat) (m:n=w.heap.size) (h:lo≤w.heap.size):(w.alloc (.cells #[] e)).ownsRow lo e k (.slice (some ⟨n,0,none⟩) 0 0) 0 []:=by
 subst m;exact nP w lo e k h
theorem jm {w:World} {p:Addr} {u:Value} {o:Obj} (h:w.cell? p=some u):(w.alloc o).cell? p=some u:=by
 rw [World.cell?_alloc_lt _ _ _ (World.block_lt_of_cell? w p h)];exact h
theorem aH {w:World} {lo lo':Nat} {e:TypeId} {k n:Nat} {v:Value} {q:List Value} (h:w.ownsRow lo e k v n q) (y:lo'≤lo):w.ownsRow lo' e k v n q:=by
 refine ⟨h.1,?_⟩
 rcases h.2 with h|⟨g,cap,m,h1,r,u⟩
 ·exact .inl h
 ·exact .inr ⟨g,cap,m,h1,Nat.le_trans y r,u⟩
theorem own_ne {w:World} {lo:Nat} {e:TypeId} {k n:Nat} {v:Value} {q:List Value} (h:w.ownsRow lo e k v n q) {b:Nat} (r:b<lo):v.ownBlock≠some b:=fun m=>by have:=(h.lt b m).1;omega
theorem own_below {w q:World} {lo:Nat} {e:TypeId} {k n:Nat} {v:Value} {r:List Value} (h:w.ownsRow lo e k v n r) (m:Below w w q):q.ownsRow lo e k v n r :=
 h.kept (row:=none) ⟨m.os,m.tape,m.output,m.size,fun i u _=>m.block i u⟩ (by cases v.ownBlock <;> simp)
theorem rQ {w:World} {lo:Nat} {e:TypeId} {k n:Nat} {v:Value} {m:List Value} (h:w.ownsRow lo e k v n m) (o:Obj):(w.alloc o).ownsRow lo e k v n m:=World.ownsRow.alloc h o
theorem qh {w:World} {lo:Nat} {e:TypeId} {k n:Nat} {v:Value} {m:List Value} (h:w.ownsRow lo e k v n m):w.drew.ownsRow lo e k v n m:=h
theorem aI {w:World} {lo:Nat} {e:TypeId} {k n:Nat} {v:Value} {m:List Value} (h:w.ownsRow lo e k v n m) {p:Addr} (hp:v.ownBlock≠some p.block) (u:Value):(w.setCell p u).ownsRow lo e k v n m :=
 h.kept (row:=some p.block) ⟨rfl,rfl,rfl,by simp [World.setCell],fun i _ q=>Below.heap_setCell w p u i (fun e=>q (by rw [e]))⟩ (.inr hp)
theorem jH {w:World} {lo:Nat} {e:TypeId} {k g n cap:Nat} {q:List Value} (h:w.ownsRow lo e k (.slice (some ⟨g,0,none⟩) n cap) n q) (i:Nat) (H:i<q.length) (u:Value) :
  (w.setCell ⟨g,i,none⟩ u).ownsRow lo e k (.slice (some ⟨g,0,none⟩) n cap) n (q.set i u):=by
 refine ⟨by simpa using h.1,?_⟩
 rcases h.2 with ⟨y,_⟩|⟨G,r,m,h1,z,A,D,E,h6,F⟩
 ·simp at y
 ·simp at h1
  obtain ⟨rfl,rfl⟩:=h1
  refine .inr ⟨g,cap,m.setIfInBounds i u,rfl,z,by simp [World.setCell,Array.getElem?_modify,A],D,E,by simpa using h6,?_⟩
  rw [Array.toList_setIfInBounds,← F,List.take_set]
theorem ints_set (l:List Int) (i:Nat) (x:Int):ints (l.set i x)=(ints l).set i (.int .i64 x):=by simp [ints,List.map_set]
theorem vB (l:List Int):(ints l).length=l.length:=by simp [ints]
theorem sU:∀ (cs:List C3) (i:Nat) (c:C3),jB (cs.set i c)=(((jB cs).set (i*3) (.int .i64 c.s)).set (i*3+1) (.int .i64 c.e)).set (i*3+2) (.int .i64 c.t)
 | [],i,c=>by simp [jB]
 | d :: cs,0,c=>by simp [jB]
 | d :: cs,i+1,c=>by
  have h:=sU cs i c
  have m:(i+1)*3=i*3+3:=by omega
  rw [m]
  simpa [jB] using h
theorem kL:(Tryz.prog.info? 2).map (fun i=>(i.zero,i.size,i.bytes))=some (some (.int .i64 0),1,8):=by kernel_rfl
abbrev Gr (g:Nat) (w w':World):Prop:=w.grownBy w' (some g)
theorem gR (g:Nat) (w:World):Gr g w w:=⟨rfl,rfl,rfl,Nat.le_refl _,fun _ _ _=>rfl⟩
theorem gD {g:Nat} {w W:World} (h:Gr g w W):Gr g w W.drew:=⟨h.os,h.tape,h.output,h.size,h.block⟩
theorem Qi {g:Nat} {w W:World} (h:Gr g w W) (n:Nat):Gr g w (W.drewN n):=⟨h.os,h.tape,h.output,h.size,h.block⟩
theorem gA {g:Nat} {w W:World} {o:Obj} (h:Gr g w W):Gr g w (W.alloc o):=⟨h.os,h.tape,h.output,Nat.le_trans h.size (by simp),fun k m q=>(Below.heap_alloc W o k (Nat.lt_of_lt_of_le m h.size)).trans (h.block k m q)⟩
theorem gS {g:Nat} {w W:World} {p:Addr} {u:Value} (h:Gr g w W) (hp:p.block=g∨w.heap.size≤p.block):Gr g w (W.setCell p u) :=
 ⟨h.os,h.tape,h.output,by simpa [World.setCell] using h.size,fun k q m=>(Below.heap_setCell W p u k (by
  rintro rfl
  rcases hp with hp|hp
  ·exact m (by rw [hp])
  ·omega)).trans (h.block k q m)⟩
theorem gT {g:Nat} {w W r:World} (h:Gr g w W) (k:Gr g W r):Gr g w r :=
 ⟨k.os.trans h.os,k.tape.trans h.tape,k.output.trans h.output,Nat.le_trans h.size k.size,fun i m q=>(k.block i (Nat.lt_of_lt_of_le m h.size) q).trans (h.block i m q)⟩
theorem Qj {B:Nat} {a w:World} (h:Below B a w) (n:Nat):Below B a (w.drewN n):=⟨h.os,h.tape,h.output,h.size,h.block⟩
theorem kT {g b:Nat} {w m:World} (h:Gr g w m) (q:b<w.heap.size) (r:b≠g) (o:Nat):m.cell? ⟨b,o,none⟩=w.cell? ⟨b,o,none⟩ :=
 World.cell?_of_block (h.block b q (by simpa using r))
theorem lF {g b:Nat} {w m:World} (h:Gr g w m) (q:b<w.heap.size) (r:b≠g) (o:Nat):m.frozen? ⟨b,o,none⟩=w.frozen? ⟨b,o,none⟩ :=
 World.frozen?_of_block (h.block b q (by simpa using r))
theorem bG {g:Nat} {w W q:World} (h:Below w w W) (k:Gr g W q) (r:w.heap.size≤g):Below w w q :=
 ⟨k.os.trans h.os,k.tape.trans h.tape,k.output.trans h.output,Nat.le_trans h.size k.size,fun i m=>(k.block i (Nat.lt_of_lt_of_le m h.size) (by simp;omega)).trans (h.block i m)⟩
theorem rf {g:Nat} {w m:World} (h:Below w w m):Gr g w m:=⟨h.os,h.tape,h.output,h.size,fun i q _=>h.block i q⟩
theorem zO {w E W:World} {lo q:Nat} {e z:TypeId} {k A m D:Nat} {v:Value} {y u:List Value} (h:w.ownsRow lo e k v m y) (G:E.ownsRow q z A v D u) (r:w.ownsRow lo e k v m y→E.ownsRow q z A v D u→W.ownsRow lo e k v m y:=by (intro H F;repeat first|with_reducible exact H|with_reducible refine rQ ?_ _|with_reducible refine qh ?_|((with_reducible first|refine aI ?_ ?_ _|refine dZ ?_ ?_);rotate_left;focus first|(refine own_ne F ?_;(try dsimp only);omega)|(refine dN F ?_;(try dsimp only);omega)))):W.ownsRow lo e k v m y:=r h G
theorem zP {w F W:World} {lo u:Nat} {e A:TypeId} {k D m E:Nat} {v:Value} {z y:List Value} {p q:Nat} (h:w.ownsRow lo e k v m z) (H:F.ownsRow u A D v E y) (f:∀ j,p≤j→j<q→v.ownBlock≠some j) (r:w.ownsRow lo e k v m z→F.ownsRow u A D v E y→(∀ j,p≤j→j<q→v.ownBlock≠some j)→W.ownsRow lo e k v m z:=by (intro J G I;repeat first|with_reducible exact J|with_reducible refine rQ ?_ _|with_reducible refine qh ?_|((with_reducible first|refine aI ?_ ?_ _|refine dZ ?_ ?_);rotate_left;focus first|(refine own_ne G ?_;(try dsimp only);omega)|(refine dN G ?_;(try dsimp only);omega)|exact I _ (by (try dsimp only) <;> omega) (by (try dsimp only) <;> omega)))):W.ownsRow lo e k v m z:=r h H f
theorem lh {g:Nat} {w W:World} (h:Gr g w W:=by (repeat (first|with_reducible assumption|with_reducible exact gR _ _|with_reducible refine gA ?_|with_reducible refine gD ?_|((with_reducible refine gS ?_ (.inr ?_));rotate_left;(focus ((try simp);(try omega))))))):Gr g w W:=h
theorem mT {P:Program} {q:Array Oper} {Q:Exit→Act→World→Prop} {u:Region.Mode} {S:World→Prop} {i:Nat} {oi:Oper} {v:Value} {r:Nat} {m:Array Bool} {a:Act} {w:World} (D:q[i]?=some oi)
  (h:wpAnyH P u q Q S r (m.setIfInBounds i true) (a.put oi.dst v) w) (g:Region.wanted oi (yielded q a.tmps)=true:=by rfl) (y:∀ w,S w→(execOp a.eval oi).run P w=.ok (.value v) w:=by (intro w' hSw;(try dsimp only at hSw);go_simp;(try with_reducible rfl)))
  (hs:Region.noSelect q=true:=by kernel_rfl) (A:Region.free u q m i=true:=by kernel_rfl) (E:(Region.ready u q m).contains i=true:=by kernel_rfl) (z:S w:=by assumption)
  (hQ:∀ c a w,Q (.panic c) (a.put oi.dst v) w→Q (.panic c) a w:=by exact fun _ _ _ h=>h):wpAnyH P u q Q S (r+1) m a w:=wpAnyH_take D hs A E hQ (.inl ⟨g,y⟩) z h
theorem mS {P:Program} {q:Array Oper} {Q:Exit→Act→World→Prop} {u:Region.Mode} {S:World→Prop} {i:Nat} {oi:Oper} {r:Nat} {m:Array Bool} {a:Act} {w:World} (A:q[i]?=some oi)
  (h:wpAnyH P u q Q S r (m.setIfInBounds i true) (a.put oi.dst undef) w) (g:Region.wanted oi (yielded q a.tmps)=false:=by rfl)
  (hs:Region.noSelect q=true:=by kernel_rfl) (z:Region.free u q m i=true:=by kernel_rfl) (D:(Region.ready u q m).contains i=true:=by kernel_rfl) (y:S w:=by assumption)
  (hQ:∀ c a w,Q (.panic c) (a.put oi.dst undef) w→Q (.panic c) a w:=by exact fun _ _ _ h=>h):wpAnyH P u q Q S (r+1) m a w:=wpAnyH_take A hs z D hQ (.inr ⟨g,rfl⟩) y h
end
section
open Go.RowKit
theorem gQ (n m k:Int) (w:World):Calls prog 121 #[.int .i64 n,.int .i64 m,.int .i64 k] w fun e w'=>e=.returned (.bool (dA n m k))∧w=w':=by
 go_enter func121,ntmps121
 go_wp2
 all_goals go_ret
 ·exact ⟨dB (Kw ‹_›),rfl⟩
 ·exact ⟨dB (vw (.inl ‹_›)).symm,rfl⟩
theorem ui (n:Int) (w:World):Calls prog 171 #[.int .i64 n] w fun r w'=>r=.returned (.bool (dA n 0 10))∧w=w':=by
 go_enter func171,ntmps171
 go_wp2_with (go_at_call 121;refine (gQ _ _ _ _).mono ?_;rintro _ _ ⟨rfl,rfl⟩)
 go_ret
 exact ⟨rfl,rfl⟩
theorem mQ (n:Int) (w:World):Calls prog 122 #[.int .i64 n] w fun r w'=>r=.returned (.bool (dA n 0 999))∧w=w':=by
 go_enter func122,ntmps122
 go_wp2_with (go_at_call 121;refine (gQ _ _ _ _).mono ?_;rintro _ _ ⟨rfl,rfl⟩)
 go_ret
 exact ⟨rfl,rfl⟩
theorem mf (s e t:Int) (w:World):Calls prog 162 #[.agg #[.int .i64 s,.int .i64 e,.int .i64 t]] w fun r w'=>r=.returned (.bool (ku s e t))∧Below w w w':=by
 go_enter func162,ntmps162
 go_wp2_with (first|(go_at_call 171;refine (ui _ _).mono ?_;rintro _ _ ⟨rfl,rfl⟩)|(go_at_call 122;refine (mQ _ _).mono ?_;rintro _ _ ⟨rfl,rfl⟩)|(go_at_call 121;refine (gQ _ _ _ _).mono ?_;rintro _ _ ⟨rfl,rfl⟩))
 all_goals go_ret
 all_goals refine ⟨dB ?_,by exact zB⟩
 ·exact GX ‹_› ‹_›
 ·exact GV ‹_›
 ·exact GU ‹_›
end
section
structure Ch where
 cap:Int
 sent:Int
 got:Int
 fin:Int
 cells:List C3
 words:List Int
structure Ha where
 pos:Int
 code:Int
 elem:Int
 cell:Int
 seen:Int
 wait:Int
 fin:Int
 come:Int
 grow:Int
 mine:Int
 nxt:Int
 beg:Int
 reply:Int
 out:Int
def C3.zero:C3:=⟨0,0,0⟩
def Ch.zero:Ch:=⟨0,0,0,0,[],[]⟩
def Ha.zero:Ha:=⟨0,0,0,0,0,0,0,0,0,0,0,0,0,0⟩
def fI (m:Nat) (c:C3):Bool:=P7 c && decide (c.t≤m)
def fO (c:Ch):Bool:=dA c.cap 0 4 && (dA c.sent 0 40 && (dA c.got 0 40 && (dA c.fin 0 40 && (decide (c.cells.length=40) && decide (c.words.length≤80)))))
def aW (c:Ch):Bool:=fO c && (c.cells.all (fI c.words) && c.words.all (fun x=>dA x 0 2))
def dK (cap:Int):Ch:=if dA cap 0 4 then ⟨cap,0,0,cap,List.replicate 40 C3.zero,[]⟩ else Ch.zero
def ky (st:Int):Nat→List C3→List Int
 | _,[]=>[]
 | k,c :: cs=>if c.s == st then (k:Int) :: ky st (k+1) cs else ky st (k+1) cs
def atS (c:Ch) (st:Int):List Int:=ky st 0 c.cells
def keptIn (c:Ch):List Int:=if aW c then (atS c 2).map fun i=>(c.cells.getD i.toNat C3.zero).e else []
def kF (c:Ch) (w:Int):Bool:=dA w 1 c.words
def fJ (c:Ch) (w:Int):Int:=c.words.getD (w - 1).toNat 0
def iZ (c:Ch) (w:Int):Int:=if aW c && kF c w then fJ c w else -1
def eY (c:Ch) (w word:Int):Bool:=kF c w && (fJ c w == 0 && dA word 1 2)
def dM (c:Ch) (w word:Int):Ch:=if eY c w word then { c with words:=c.words.set (w - 1).toNat word } else c
end
section
open Go.RowKit
theorem pI (n:Int) (w:World):Calls prog 161 #[.int .i64 n] w fun r w'=>r=.returned (.bool (dA n 0 40))∧w=w':=by
 go_enter func161,ntmps161
 go_wp2_with (go_at_call 121;refine (gQ _ _ _ _).mono ?_;rintro _ _ ⟨rfl,rfl⟩)
 go_ret
 exact ⟨rfl,rfl⟩
theorem Nu (cap sent got fin:Int) (cells:List C3) (words:List Int) (h:fO ⟨cap,sent,got,fin,cells,words⟩=false):false=aW ⟨cap,sent,got,fin,cells,words⟩:=by simp [aW,h]
theorem K6 {cap sent got fin:Int} {cells:List C3} {words:List Int} (h:fO ⟨cap,sent,got,fin,cells,words⟩=true) :
  dA cap 0 4=true∧dA sent 0 40=true∧dA got 0 40=true∧dA fin 0 40=true∧cells.length=40∧words.length≤80:=by
 simpa [fO] using h
theorem Es (cap sent got fin:Int) (cells:List C3) (words:List Int) (a b:Option Addr) (p q:Nat) (w:World) (h:fO ⟨cap,sent,got,fin,cells,words⟩=false) :
  Calls prog 112 #[.agg #[.int .i64 cap,.int .i64 sent,.int .i64 got,.int .i64 fin,.slice a cells.length p,.slice b words.length q]] w fun r w'=>r=.returned (.bool (aW ⟨cap,sent,got,fin,cells,words⟩))∧Below w w w':=by
 rw [← Nu _ _ _ _ _ _ h]
 have H:=aA h
 clear h
 go_enter func112,ntmps112
 go_wp2_with (first|(go_at_call 121;refine (gQ _ _ _ _).mono ?_;rintro _ _ ⟨rfl,rfl⟩)|(go_at_call 161;refine (pI _ _).mono ?_;rintro _ _ ⟨rfl,rfl⟩))
 all_goals first|(go_ret;exact ⟨rfl,by exact zB⟩)|skip
 exfalso
 have h:=H.out
 simp [fO, *] at h
 omega
theorem yJ {cap sent got fin:Int} {cells:List C3} {words:List Int} {k:Nat} {c:C3} (m:k<cells.length) (q:cells.getD k ⟨0,0,0⟩=c) (h:fI words.length c=false):false=aW ⟨cap,sent,got,fin,cells,words⟩:=by
 have:cells.all (fI words.length)=false:=by
  rw [List.all_eq_false]
  refine ⟨cells[k],List.getElem_mem m,?_⟩
  rw [← q] at h
  simpa [List.getD,List.getElem?_eq_getElem m] using h
 simp [aW,this]
theorem Iz {cap sent got fin:Int} {cells:List C3} {words:List Int} {k:Nat} {x:Int} (m:k<words.length) (q:words.getD k 0=x) (h:dA x 0 2=false):false=aW ⟨cap,sent,got,fin,cells,words⟩:=by
 have:words.all (fun x=>dA x 0 2)=false:=by
  rw [List.all_eq_false]
  refine ⟨words[k],List.getElem_mem m,?_⟩
  rw [← q] at h
  simpa [List.getD,List.getElem?_eq_getElem m] using h
 simp [aW,this]
theorem vC {words:List Int} {k:Nat} {x:Int} (m:k<words.length) (q:words.getD k 0=x) (h:(words.take k).all (fun x=>dA x 0 2)=true) (h1:dA x 0 2=true):(words.take (k+1)).all (fun x=>dA x 0 2)=true:=by
 have e:words.take (k+1)=words.take k ++ [x]:=by
  rw [List.take_succ_eq_append_getElem m,← q];simp [List.getD,List.getElem?_eq_getElem m]
 rw [e,List.all_append,h];simp [h1]
def fitsAt (words:List Int) (cells:List C3) (k:Nat):Prop:=(cells.take k).all (fI words.length)=true
theorem K7 {cap sent got fin:Int} {cells:List C3} {words:List Int} (h:fO ⟨cap,sent,got,fin,cells,words⟩=true) (h1:fitsAt words cells cells.length) (m:(words.take words.length).all (fun x=>dA x 0 2)=true):true=aW ⟨cap,sent,got,fin,cells,words⟩:=by
 unfold fitsAt at h1
 rw [List.take_length] at h1 m
 unfold aW
 rw [h,h1,m];rfl
theorem I1 {words:List Int} {cells:List C3} {k:Nat} {c:C3} (q:k<cells.length) (m:cells.getD k ⟨0,0,0⟩=c) (h:fitsAt words cells k) (h1:fI words.length c=true):fitsAt words cells (k+1):=by
 unfold fitsAt at *
 rw [ow cells k q,m,List.all_append,h];simp [h1]
set_option linter.unusedSimpArgs false in
theorem BP (cap sent got fin:Int) (cells:List C3) (words:List Int) (a b:Option Addr) (p q:Nat) (w:World) (h1:fA w w a cells) (h2:fD w w b words) (h:fO ⟨cap,sent,got,fin,cells,words⟩=true) :
  Calls prog 112 #[.agg #[.int .i64 cap,.int .i64 sent,.int .i64 got,.int .i64 fin,.slice a cells.length p,.slice b words.length q]] w fun r w'=>r=.returned (.bool (aW ⟨cap,sent,got,fin,cells,words⟩))∧Below w w w':=by
 obtain ⟨i1,i2,i3,i4,i5,i6⟩:=K6 h
 have hl:((cells.length:Int) != 40)=false:=by simp;omega
 have a5:cells.length≤40:=by omega
 have hw:decide (80<(words.length:Int))=false:=by simp;omega
 have H1:=aA h1
 have H2:=aA h2
 have HH:=aA h
 have I5:=aA i5
 clear h1 h2 h i5
 obtain ⟨z,A,rfl,M,N⟩:∃ b o,a=some ⟨b,o,none⟩∧b<w.heap.size∧Hid (∀ i j,i<cells.length→j<3→w.cell? ⟨b,o+i*3+j,none⟩=some (iq cells i j)):=by
  rcases H1.out with T|T
  ·exact absurd T (by have:=I5.out;omega)
  ·exact T
 go_enter func112,ntmps112
 go_wp2_with (first|(go_at_call 121;refine (gQ _ _ _ _).mono ?_;rintro _ _ ⟨rfl,rfl⟩)|(go_at_call 161;refine (pI _ _).mono ?_;rintro _ _ ⟨rfl,rfl⟩))
 go_loopw [3] (fun i wr=>∃ k:Nat,k≤cells.length∧i=.int .i64 k∧fitsAt words cells k∧(∀ o,wr.cell? ⟨w,o,none⟩=#[Value.int .i64 cap,.int .i64 sent,.int .i64 got,.int .i64 fin,.slice (some ⟨z,A,none⟩) cells.length p,.slice b words.length q][o]?)∧w<wr.heap.size∧Below w w wr) (fun i _=>cells.length - (intOf i).toNat)
 case atStart=>exact ⟨0,Nat.zero_le _,rfl,rfl,fun o=>by simp,by simp,by exact zB⟩
 case round =>
  obtain ⟨k,hk,rfl,J,y,D,F⟩:=hrel
  by_cases u:k<cells.length
  ·have c0:=(F.cell (p:=⟨z,A+k*3+0,none⟩) M).trans (N.out k 0 u tO)
   have V:=(F.cell (p:=⟨z,A+k*3+1,none⟩) M).trans (N.out k 1 u tO)
   have c2:=(F.cell (p:=⟨z,A+k*3+2,none⟩) M).trans (N.out k 2 u tO)
   simp only [iq,C3.val,Nat.add_zero] at c0 V c2
   generalize E:cells.getD k ⟨0,0,0⟩=c at c0 V c2
   have O:=aA E
   clear E
   have x4:=y 4
   have U:=y 5
   simp at x4 U
   have a3:(0:Int)≤(k:Int):=by omega
   have a4:(k:Int)<(cells.length:Int):=by omega
   by_cases H:ku c.s c.e c.t=true
   ·go_wp2_with fail
    go_region_held3 (fun w'=>w'.cell? ⟨w,4,none⟩=some (.slice (some ⟨z,A,none⟩) cells.length p)∧w'.cell? ⟨w,5,none⟩=some (.slice b words.length q)∧w'.cell? ⟨z,A+k*3,none⟩=some (.int .i64 c.s)∧w'.cell? ⟨z,A+k*3+1,none⟩=some (.int .i64 c.e)∧w'.cell? ⟨z,A+k*3+2,none⟩=some (.int .i64 c.t))
     (first|(simp [*,go_sem]))
     (first|(go_at_call 162;refine (mf _ _ _ _).mono ?_;rintro _ w7 ⟨rfl,m⟩;have G:Below w w w7:=bT zB m;have:=m.cell (p:=⟨w,4,none⟩) (by simp;omega);have:=m.cell (p:=⟨w,5,none⟩) (by simp;omega);have:=m.cell (p:=⟨z,A+k*3,none⟩) (by simp;omega);have:=m.cell (p:=⟨z,A+k*3+1,none⟩) (by simp;omega);have:=m.cell (p:=⟨z,A+k*3+2,none⟩) (by simp;omega);have Z:=fun o=>(m.cell (p:=⟨w,o,none⟩) (by simp;omega)).trans (y o);have Y:=m.size;simp at Y))
    by_cases a2:(words.length:Int)<c.t
    ·go_wp2
     go_ret
     exact ⟨dB (yJ u O.out (by simp [fI,P7,H];omega)),G⟩
    ·go_wp2
     go_roundw
     case rel=>exact ⟨k+1,by omega,by go_num,I1 u O.out J (by simp [fI,P7,H];omega),Z,by omega,G⟩
     case measure=>simp [intOf];omega
   ·have L:ku c.s c.e c.t=false:=by simpa using H
    clear H U
    go_wp2_with fail
    refine wp_region_held_drew (S:=fun w'=>w'.cell? ⟨w,4,none⟩=some (.slice (some ⟨z,A,none⟩) cells.length p)∧w'.cell? ⟨z,A+k*3,none⟩=some (.int .i64 c.s)∧w'.cell? ⟨z,A+k*3+1,none⟩=some (.int .i64 c.e)∧w'.cell? ⟨z,A+k*3+2,none⟩=some (.int .i64 c.t)) (by kernel_rfl) (by simp [*,go_sem]) (fun a0=>?_)
    refine mT (i:=0) (oi:=⟨some 46,_,_,_,_,_⟩) rfl ?_;(try simp only [bW])
    refine mT (i:=1) (oi:=⟨some 47,_,_,_,_,_⟩) rfl ?_;(try simp only [bW])
    refine mT (i:=2) (oi:=⟨some 48,_,_,_,_,_⟩) rfl ?_;(try simp only [bW])
    refine mT (i:=3) (oi:=⟨some 49,_,_,_,_,_⟩) rfl ?_;(try simp only [bW])
    refine mT (i:=4) (oi:=⟨some 50,_,_,_,_,_⟩) rfl ?_;(try simp only [bW])
    refine wpAnyH_ready (rs:=[5]) (by kernel_rfl) (by simp) ?_
    refine AllReadyH.cons (o:=⟨some 51,_,_,_,_,_⟩) rfl (fun K hK=>?_) AllReadyH.nil
    go_simp
    go_at_call 162
    refine (mf _ _ _ _).mono ?_
    rintro _ w7 ⟨rfl,m⟩
    have G:Below w w w7:=bT zB m
    rw [L]
    refine hK.out _ _ ?_ (fun a1=>?_)
    ·refine ⟨(m.cell (by simp;omega)).trans x4,(m.cell (by simp;omega)).trans c0,(m.cell (by simp;omega)).trans V,(m.cell (by simp;omega)).trans c2⟩
    clear hK
    (try simp only [bW])
    refine mT (i:=6) (oi:=⟨some 52,_,_,_,_,_⟩) rfl ?_;(try simp only [bW])
    refine mT (i:=7) (oi:=⟨some 53,_,_,_,_,_⟩) rfl ?_;(try simp only [bW])
    refine mS (i:=8) (oi:=⟨some 54,_,_,_,_,_⟩) rfl ?_;(try simp only [bW])
    refine mS (i:=9) (oi:=⟨some 55,_,_,_,_,_⟩) rfl ?_;(try simp only [bW])
    refine mS (i:=10) (oi:=⟨some 56,_,_,_,_,_⟩) rfl ?_;(try simp only [bW])
    refine mS (i:=11) (oi:=⟨some 57,_,_,_,_,_⟩) rfl ?_;(try simp only [bW])
    refine mS (i:=12) (oi:=⟨some 58,_,_,_,_,_⟩) rfl ?_;(try simp only [bW])
    refine mS (i:=13) (oi:=⟨some 59,_,_,_,_,_⟩) rfl ?_;(try simp only [bW])
    refine mS (i:=14) (oi:=⟨some 60,_,_,_,_,_⟩) rfl ?_;(try simp only [bW])
    refine mS (i:=15) (oi:=⟨some 61,_,_,_,_,_⟩) rfl ?_;(try simp only [bW])
    refine mS (i:=16) (oi:=⟨some 62,_,_,_,_,_⟩) rfl ?_;(try simp only [bW])
    refine mS (i:=17) (oi:=⟨some 63,_,_,_,_,_⟩) rfl ?_;(try simp only [bW])
    refine mT (i:=18) (oi:=⟨some 64,_,_,_,_,_⟩) rfl ?_;(try simp only [bW])
    refine wpAnyH_done (by kernel_rfl) ?_ _
    go_wp2
    go_ret
    exact ⟨dB (yJ u O.out (by simp [fI,P7,L])),G⟩
  ·have:k=cells.length:=by omega
   subst this
   go_wp2
   go_loopw [4] (fun i wr=>∃ k:Nat,k≤words.length∧i=.int .i64 k∧Hid ((words.take k).all (fun x=>dA x 0 2)=true)∧(∀ o,wr.cell? ⟨w,o,none⟩=#[Value.int .i64 cap,.int .i64 sent,.int .i64 got,.int .i64 fin,.slice (some ⟨z,A,none⟩) cells.length p,.slice b words.length q][o]?)∧w<wr.heap.size∧Below w w wr) (fun i _=>words.length - (intOf i).toNat)
   case atStart=>exact ⟨0,Nat.zero_le _,rfl,rfl,y,D,F⟩
   case round =>
    clear y D F hk
    obtain ⟨k,hk,rfl,I,y,D,F⟩:=hrel
    have U:=y 5
    simp at U
    by_cases u:k<words.length
    ·obtain T|⟨b2,o2,rfl,X,R⟩:=H2.out
     ·omega
     have c0:=(F.cell (p:=⟨b2,o2+k*1+0,none⟩) X).trans (R k 0 u tO)
     simp only [jT,Nat.add_zero,Nat.mul_one] at c0
     clear R
     generalize E:words.getD k 0=x at c0
     have O:=aA E
     clear E
     go_wp2_with (go_at_call 121;refine (gQ _ _ _ _).mono ?_;rintro _ _ ⟨rfl,rfl⟩)
     ·go_ret
      exact ⟨dB (Iz u O.out (not_true ‹_›)),F⟩
     ·go_roundw
      case rel=>exact ⟨k+1,by omega,by go_num,vC u O.out I.out (not_false ‹_›),y,D,F⟩
      case measure=>simp [intOf];omega
    ·have:k=words.length:=by omega
     subst this
     go_wp2
     go_ret
     exact ⟨dB (K7 HH.out J I.out),F⟩
theorem mg (c:Ch) (a b:Option Addr) (p q:Nat) (w:World) (h1:fA w w a c.cells) (m:fD w w b c.words) :
  Calls prog 112 #[.agg #[c.cap,c.sent,c.got,c.fin,.slice a c.cells p,.slice b c.words q]] w fun r w'=>r=.returned (.bool (aW c))∧Below w w w':=by
 obtain ⟨cap,sent,got,fin,cells,words⟩:=c
 by_cases h:fO ⟨cap,sent,got,fin,cells,words⟩=true
 ·exact BP cap sent got fin cells words a b p q w h1 m h
 ·exact Es cap sent got fin cells words a b p q w (by simpa using h)
end
section
def eB (k e:Int):Bool:=(k == 1 && dA e 0 999) || (k == 2 && e == 0)
def kM (k e r:Int):Bool:=eB k e && (dA r 1 4 && ((k == 1 || r != 1) && (k == 2 || r != 2)))
def sV (k e:Int):Bool:=k == 0 && e == 0
def oV (h:Ha):Bool:=dA h.pos 0 25 && (if h.pos == 0 then sV h.code h.elem else eB h.code h.elem)
def qy (h:Ha):Bool:=dA h.cell 0 39 && (dA h.grow 0 39 && (dA h.seen 0 10 && (dA h.wait 0 80 && dA h.mine 0 80)))
def uj (h:Ha):Bool:=dA h.fin 0 40 && (dA h.come 0 40 && (dA h.nxt 0 2 && (dA h.beg 0 20000 && (dA h.reply 0 4 && dA h.out 0 999))))
def bM (h:Ha):Bool:=oV h && (qy h && uj h)
def aV (r o:Int):Ha:=⟨0,0,0,0,0,0,0,0,0,0,0,0,r,o⟩
def begun (k e b:Int):Ha:=⟨if k == 2 then 9 else 1,k,e,0,0,0,0,0,0,0,0,b,0,0⟩
def called (h:Ha) (k e:Int):Ha × Int:=if bM h then (if h.pos == 0 then (if eB k e then (begun k e 0,0) else (h,2)) else (h,1)) else (Ha.zero,3)
end
section
open Go.RowKit
def Lie (w:World) (b n k:Nat) (f:Nat→Nat→Value):Prop :=
 ∃ (c:Array Value) (t:TypeId),w.heap[b]?=some (.cells c t (0,0))∧n*k≤c.size∧∀ i j,i<n→j<k→c[i*k+j]?=some (f i j)
namespace Lie
variable {w w':World} {b n k:Nat} {f g:Nat→Nat→Value}
theorem cell (h:Lie w b n k f) {i j:Nat} (r:i<n) (u:j<k):w.cell? ⟨b,i*k+j,none⟩=some (f i j):=by
 obtain ⟨c,t,m,_,q⟩:=h
 simp [World.cell?,m,q i j r u]
theorem frozen (h:Lie w b n k f) (o:Nat):w.frozen? ⟨b,o,none⟩=false:=by
 obtain ⟨c,t,m,_,_⟩:=h
 simp [World.frozen?,m]
theorem lt (h:Lie w b n k f):b<w.heap.size:=by
 obtain ⟨c,t,m,_,_⟩:=h
 exact (Array.getElem?_eq_some_iff.1 m).1
theorem congr (h:Lie w b n k f) (e:∀ i j,i<n→j<k→f i j=g i j):Lie w b n k g:=by
 obtain ⟨c,t,r,y,u⟩:=h
 exact ⟨c,t,r,y,fun i j m q=>by rw [u i j m q,e i j m q]⟩
theorem of_block (h:Lie w b n k f) (e:w'.heap[b]?=w.heap[b]?):Lie w' b n k f:=by
 obtain ⟨c,t,m,r,q⟩:=h
 exact ⟨c,t,e.trans m,r,q⟩
theorem below {B:Nat} (h:Lie w b n k f) (q:Below B w w') (m:b<B):Lie w' b n k f:=h.of_block (q.block b m)
theorem set (h:Lie w b n k f) {i j:Nat} (E:i<n) (A:j<k) (v:Value):Lie (w.setCell ⟨b,i*k+j,none⟩ v) b n k (fun m q=>if m=i∧q=j then v else f m q):=by
 obtain ⟨c,t,D,F,z⟩:=h
 refine ⟨c.setIfInBounds (i*k+j) v,t,?_,by simpa using F,fun m q u r=>?_⟩
 ·simp [World.setCell,Array.getElem?_modify,D]
 ·rw [Array.getElem?_setIfInBounds]
  by_cases e:i*k+j=m*k+q
  ·obtain ⟨rfl,rfl⟩:=Row.idx A r e
   have y:i*k+j<c.size:=(Array.getElem?_eq_some_iff.1 (z i j E A)).1
   simp [y]
  ·rw [if_neg e]
   show c[m*k+q]?=some (if m=i∧q=j then v else f m q)
   rw [if_neg (fun h=>e (by rw [h.1,h.2]))]
   exact z m q u r
theorem seg (h:Lie w b n k f):Seg w w (some ⟨b,0,none⟩) n k f:=.inr ⟨b,0,rfl,h.lt,fun i j m q=>by simpa using h.cell m q⟩
end Lie
theorem Row.lie {w:World} {b:Nat} {t:TypeId} {n k:Nat} {f:Nat→Nat→Value} (h:Row w b t n k f):Lie w b n k f:=by
 obtain ⟨c,m,r,q⟩:=h
 exact ⟨c,t,m,Nat.le_of_eq r.symm,q⟩
def New (w:World) (lo:Nat) (v:Value) (n k:Nat) (f:Nat→Nat→Value):Prop :=
 (v=.slice none 0 0∧n=0)∨∃ g cap,v=.slice (some ⟨g,0,none⟩) n cap∧lo≤g∧Lie w g n k f
abbrev Qk (w:World) (lo:Nat) (v:Value) (l:List Int):Prop:=New w lo v l.length 1 (jT l)
abbrev PL (w:World) (lo:Nat) (v:Value) (cs:List C3):Prop:=New w lo v cs.length 3 (iq cs)
namespace New
variable {w w1:World} {lo n k:Nat} {v:Value} {f:Nat→Nat→Value}
theorem below (h:New w lo v n k f) (r:Below w w w1):New w1 lo v n k f:=by
 rcases h with h|⟨g,cap,h1,q,m⟩
 ·exact .inl h
 ·exact .inr ⟨g,cap,h1,q,m.below r m.lt⟩
theorem more {lo':Nat} (h:New w lo v n k f) (r:lo'≤lo):New w lo' v n k f:=by
 rcases h with h|⟨g,cap,h1,m,q⟩
 ·exact .inl h
 ·exact .inr ⟨g,cap,h1,Nat.le_trans r m,q⟩
theorem kept {row:Option Nat} (h:New w lo v n k f) (u:w.grownBy w1 row) (m:row=none∨v.ownBlock≠row):New w1 lo v n k f:=by
 rcases h with h|⟨g,cap,h1,r,q⟩
 ·exact .inl h
 ·refine .inr ⟨g,cap,h1,r,q.of_block (u.block g q.lt fun e=>?_)⟩
  subst h1
  rcases m with rfl|m
  ·cases e
  ·exact m (by rw [← e];rfl)
theorem seg (h:New w lo v n k f):∃ a cap,v=.slice a n cap∧Seg w w a n k f:=by
 rcases h with ⟨rfl,rfl⟩|⟨g,cap,rfl,_,m⟩
 ·exact ⟨none,0,rfl,.inl rfl⟩
 ·exact ⟨_,cap,rfl,m.seg⟩
theorem lt (h:New w lo v n k f) {b:Nat} (m:v.ownBlock=some b):lo≤b∧b<w.heap.size:=by
 rcases h with ⟨rfl,_⟩|⟨g,cap,rfl,q,r⟩
 ·cases m
 ·simp [Value.ownBlock] at m
  subst m
  exact ⟨q,r.lt⟩
end New
theorem aD.new {w:World} {lo:Nat} {v:Value} {cs:List C3} (h:aD w lo v cs):PL w lo v cs:=by
 rcases h.2 with ⟨h1,y⟩|⟨g,cap,q,rfl,E,r,F,G,h6,z⟩
 ·exact .inl ⟨h1,y⟩
 ·refine .inr ⟨g,cap,rfl,E,q,_,r,?_,fun i j A D=>?_⟩
  ·have e:=congrArg List.length z
   rw [List.length_take,jO] at e
   simp at e;omega
  ·have:=h.cells (g:=g) rfl (i*3+j) _ (jf cs i j A D)
   have u:(⟨g,0,none⟩:Addr).add (i*3+j)=⟨g,i*3+j,none⟩:=by generalize i*3+j=m;by_cases e:m=0 <;> simp [Addr.add,e]
   rw [u] at this
   simpa [World.cell?,r] using this
theorem aG.new {w:World} {lo:Nat} {v:Value} {l:List Int} (h:aG w lo v l):Qk w lo v l:=by
 rcases h.2 with ⟨h1,y⟩|⟨g,cap,m,rfl,D,r,E,F,h6,z⟩
 ·exact .inl ⟨h1,y⟩
 ·refine .inr ⟨g,cap,rfl,D,m,_,r,?_,fun i j A G=>?_⟩
  ·have e:=congrArg List.length z
   rw [List.length_take,vB] at e
   simp at e;omega
  ·have q:j=0:=by omega
   subst q
   have:=h.cells (g:=g) rfl i (jT l i 0) (by simp [ints,jT,List.getD,A])
   have u:(⟨g,0,none⟩:Addr).add i=⟨g,i,none⟩:=by by_cases e:i=0 <;> simp [Addr.add,e]
   rw [u] at this
   simpa [World.cell?,r] using this
def jI (a b:Option Nat) (w w':World):Prop :=
 w'.os=w.os∧w'.tape=w.tape∧w'.output=w.output∧w≤w'.heap.size∧∀ i,i<w.heap.size→some i≠a→some i≠b→w'.heap[i]?=w.heap[i]?
theorem dR {a b:Option Nat} {w W:World} (h:Below w w W):jI a b w W:=⟨h.os,h.tape,h.output,h.size,fun i m _ _=>h.block i m⟩
theorem gU {a b:Option Nat} {w W r:World} (h:jI a b w W) (k:jI a b W r):jI a b w r :=
 ⟨k.1.trans h.1,k.2.1.trans h.2.1,k.2.2.1.trans h.2.2.1,Nat.le_trans h.2.2.2.1 k.2.2.2.1,fun i q h1 m=>(k.2.2.2.2 i (Nat.lt_of_lt_of_le q h.2.2.2.1) h1 m).trans (h.2.2.2.2 i q h1 m)⟩
theorem mY {a b:Option Nat} {w W:World} (h:w.grownBy W a):jI a b w W:=⟨h.os,h.tape,h.output,h.size,fun i m h1 _=>h.block i m h1⟩
theorem QF {a b:Option Nat} {w W:World} (h:w.grownBy W b):jI a b w W:=⟨h.os,h.tape,h.output,h.size,fun i m _ h1=>h.block i m h1⟩
theorem I4 {a b:Option Nat} {w W q:World} (h:Below w w W) (k:jI a b W q) (r:∀ i,a=some i→w.heap.size≤i) (u:∀ i,b=some i→w.heap.size≤i):Below w w q :=
 ⟨k.1.trans h.os,k.2.1.trans h.tape,k.2.2.1.trans h.output,Nat.le_trans h.size k.2.2.2.1,fun i m=>(k.2.2.2.2 i (Nat.lt_of_lt_of_le m h.size) (fun e=>by have:=r i e.symm;omega) (fun e=>by have:=u i e.symm;omega)).trans (h.block i m)⟩
theorem sW {r:Option Nat} {b:Nat} {w m:World} (h:w.grownBy m r) (q:b<w.heap.size) (u:some b≠r) (o:Nat):m.cell? ⟨b,o,none⟩=w.cell? ⟨b,o,none⟩:=World.cell?_of_block (h.block b q u)
theorem Et {r:Option Nat} {b:Nat} {w m:World} (h:w.grownBy m r) (q:b<w.heap.size) (u:some b≠r) (o:Nat):m.frozen? ⟨b,o,none⟩=w.frozen? ⟨b,o,none⟩:=World.frozen?_of_block (h.block b q u)
theorem I6 {w W q:World} {r:Option Nat} (h:Below w w W) (k:W.grownBy q r):w.grownBy q r :=
 ⟨k.os.trans h.os,k.tape.trans h.tape,k.output.trans h.output,Nat.le_trans h.size k.size,fun i m u=>(k.block i (Nat.lt_of_lt_of_le m h.size) u).trans (h.block i m)⟩
end
section
open Go.RowKit
def aB (h:Ha):Array Value:=#[.int .i64 h.pos,.int .i64 h.code,.int .i64 h.elem,.int .i64 h.cell,.int .i64 h.seen,.int .i64 h.wait,.int .i64 h.fin,.int .i64 h.come,.int .i64 h.grow,.int .i64 h.mine,.int .i64 h.nxt,.int .i64 h.beg,.int .i64 h.reply,.int .i64 h.out]
theorem Ql (h:Ha):(aB h=#[])=False:=by simp [aB]
theorem qi (h:Ha):(aB h).size=14:=rfl
theorem zU (h:Ha):(aB h)[0]?=some (.int .i64 h.pos):=rfl
theorem Nv (h:Ha) (x:Int):(aB h).setIfInBounds 0 (.int .i64 x)=aB { h with pos:=x }:=rfl
theorem Nw (h:Ha):(aB h)[1]?=some (.int .i64 h.code):=rfl
theorem Ny (h:Ha) (x:Int):(aB h).setIfInBounds 1 (.int .i64 x)=aB { h with code:=x }:=rfl
theorem Nz (h:Ha):(aB h)[2]?=some (.int .i64 h.elem):=rfl
theorem N7 (h:Ha) (x:Int):(aB h).setIfInBounds 2 (.int .i64 x)=aB { h with elem:=x }:=rfl
theorem N8 (h:Ha):(aB h)[3]?=some (.int .i64 h.cell):=rfl
theorem NA (h:Ha) (x:Int):(aB h).setIfInBounds 3 (.int .i64 x)=aB { h with cell:=x }:=rfl
theorem NB (h:Ha):(aB h)[4]?=some (.int .i64 h.seen):=rfl
theorem NC (h:Ha) (x:Int):(aB h).setIfInBounds 4 (.int .i64 x)=aB { h with seen:=x }:=rfl
theorem ND (h:Ha):(aB h)[5]?=some (.int .i64 h.wait):=rfl
theorem NF (h:Ha) (x:Int):(aB h).setIfInBounds 5 (.int .i64 x)=aB { h with wait:=x }:=rfl
theorem NG (h:Ha):(aB h)[6]?=some (.int .i64 h.fin):=rfl
theorem NH (h:Ha) (x:Int):(aB h).setIfInBounds 6 (.int .i64 x)=aB { h with fin:=x }:=rfl
theorem NI (h:Ha):(aB h)[7]?=some (.int .i64 h.come):=rfl
theorem NJ (h:Ha) (x:Int):(aB h).setIfInBounds 7 (.int .i64 x)=aB { h with come:=x }:=rfl
theorem NK (h:Ha):(aB h)[8]?=some (.int .i64 h.grow):=rfl
theorem NL (h:Ha) (x:Int):(aB h).setIfInBounds 8 (.int .i64 x)=aB { h with grow:=x }:=rfl
theorem NM (h:Ha):(aB h)[9]?=some (.int .i64 h.mine):=rfl
theorem NN (h:Ha) (x:Int):(aB h).setIfInBounds 9 (.int .i64 x)=aB { h with mine:=x }:=rfl
theorem K8 (h:Ha):(aB h)[10]?=some (.int .i64 h.nxt):=rfl
theorem K9 (h:Ha) (x:Int):(aB h).setIfInBounds 10 (.int .i64 x)=aB { h with nxt:=x }:=rfl
theorem KA (h:Ha):(aB h)[11]?=some (.int .i64 h.beg):=rfl
theorem KC (h:Ha) (x:Int):(aB h).setIfInBounds 11 (.int .i64 x)=aB { h with beg:=x }:=rfl
theorem KD (h:Ha):(aB h)[12]?=some (.int .i64 h.reply):=rfl
theorem KE (h:Ha) (x:Int):(aB h).setIfInBounds 12 (.int .i64 x)=aB { h with reply:=x }:=rfl
theorem KF (h:Ha):(aB h)[13]?=some (.int .i64 h.out):=rfl
theorem KG (h:Ha) (x:Int):(aB h).setIfInBounds 13 (.int .i64 x)=aB { h with out:=x }:=rfl
def aF (c:Ch) (v1 v2:Value):Array Value:=#[.int .i64 c.cap,.int .i64 c.sent,.int .i64 c.got,.int .i64 c.fin,v1,v2]
theorem Qm (c:Ch) (m q:Value):(aF c m q=#[])=False:=by simp [aF]
theorem He (c:Ch) (m q:Value):(aF c m q).size=6:=rfl
theorem NQ (c:Ch) (m q:Value):(aF c m q)[0]?=some (.int .i64 c.cap):=rfl
theorem NR (c:Ch) (m q:Value) (x:Int):(aF c m q).setIfInBounds 0 (.int .i64 x)=aF { c with cap:=x } m q:=rfl
theorem NS (c:Ch) (m q:Value):(aF c m q)[1]?=some (.int .i64 c.sent):=rfl
theorem NT (c:Ch) (m q:Value) (x:Int):(aF c m q).setIfInBounds 1 (.int .i64 x)=aF { c with sent:=x } m q:=rfl
theorem NU (c:Ch) (m q:Value):(aF c m q)[2]?=some (.int .i64 c.got):=rfl
theorem NZ (c:Ch) (m q:Value) (x:Int):(aF c m q).setIfInBounds 2 (.int .i64 x)=aF { c with got:=x } m q:=rfl
theorem Oa (c:Ch) (m q:Value):(aF c m q)[3]?=some (.int .i64 c.fin):=rfl
theorem Ob (c:Ch) (m q:Value) (x:Int):(aF c m q).setIfInBounds 3 (.int .i64 x)=aF { c with fin:=x } m q:=rfl
theorem Oc (c:Ch) (m q:Value):(aF c m q)[4]?=some m:=rfl
theorem Od (c:Ch) (q m:Value):(aF c q m)[5]?=some m:=rfl
theorem Oe (c:Ch) (q m x:Value):(aF c q m).setIfInBounds 4 x=aF c x m:=rfl
theorem Og (c:Ch) (m q x:Value):(aF c m q).setIfInBounds 5 x=aF c m x:=rfl
def qj (vs:Array Value):Obj→Obj
 | .cells _ t fr=>.cells vs t fr
 | o=>o
def vD (i:Nat) (v:Value):Obj→Obj
 | .cells c t fr=>.cells (c.setIfInBounds i v) t fr
 | o=>o
def dF (w:World) (b:Nat) (vs:Array Value):World:={ w with heap:=w.heap.modify b (qj vs) }
def hp (w:World) (b:Nat):Option Obj:=w.heap[b]?
def okO (n:Nat):Option Obj→Bool
 | some (.cells c _ fr)=>c.size == n && (fr.1 == 0 && fr.2 == 0)
 | _=>false
def jP:Option Obj→Array Value
 | some (.cells c _ _)=>c
 | _=>#[]
theorem xA (m c:Array Value) (t:TypeId):qj m (.cells c t)=.cells m t:=rfl
theorem eZ (i:Nat) (v:Value) (c:Array Value) (t:TypeId):vD i v (.cells c t)=.cells (c.setIfInBounds i v) t:=rfl
theorem I7 (n:Nat) (c:Array Value) (t:TypeId):okO n (some (.cells c t))=(c.size == n):=by simp [okO]
theorem rU (c:Array Value) (t:TypeId):jP (some (.cells c t))=c:=rfl
theorem vE {n:Nat} {o:Option Obj} (h:okO n o=true):∃ c t,o=some (.cells c t)∧c.size=n:=by
 unfold okO at h
 split at h
 ·rename_i c t fr
  obtain ⟨m,q⟩:=fr
  simp at h
  obtain ⟨h1,rfl,rfl⟩:=h
  exact ⟨c,t,rfl,h1⟩
 ·cases h
theorem QG (n:Nat):n<n+1+1:=by omega
theorem QH (n:Nat):n<n+1+1+1:=by omega
theorem QI (n:Nat):n<n+1+1+1+1:=by omega
theorem QJ (n:Nat):n<n+1+1+1+1+1:=by omega
variable {w W:World} {b b' n i:Nat} {vs us:Array Value} {v:Value}
theorem aP:(dF w b vs).heap.size=w.heap.size:=by simp [dF]
theorem vF:hp (dF w b vs) b=(hp w b).map (qj vs):=by simp [hp,dF,Array.getElem?_modify]
theorem aR (h:b'≠b):(dF w b vs).heap[b']?=w.heap[b']?:=by simp [dF,Array.getElem?_modify,Ne.symm h]
theorem Eu (h:b'<b):hp (dF w b vs) b'=hp w b':=aR tO
theorem Ev (h:b<b'):hp (dF w b vs) b'=hp w b':=aR tO
theorem Ew (h:okO vs.size (hp w b)=true):(dF w b vs).cell? ⟨b,i,none⟩=vs[i]?:=by
 obtain ⟨c,t,e,_⟩:=vE h
 unfold hp at e
 simp [World.cell?,dF,Array.getElem?_modify,e,qj]
theorem vG (h:b'≠b):(dF w b vs).cell? ⟨b',i,none⟩=w.cell? ⟨b',i,none⟩:=World.cell?_of_block (aR h)
theorem Ex (h:b'<b):(dF w b vs).cell? ⟨b',i,none⟩=w.cell? ⟨b',i,none⟩:=vG tO
theorem Ey (h:b<b'):(dF w b vs).cell? ⟨b',i,none⟩=w.cell? ⟨b',i,none⟩:=vG tO
theorem I8:(dF w b vs).frozen? ⟨b',i,none⟩=w.frozen? ⟨b',i,none⟩:=by
 simp only [World.frozen?,dF,Array.getElem?_modify]
 by_cases e:b=b'
 ·subst e
  simp only [if_true]
  cases w.heap[b]? with
  | none=>rfl
  | some o=>cases o <;> rfl
 ·simp [e]
theorem BQ {c:Array Value} {t:TypeId} (q:n=w.heap.size):dF (w.alloc (.cells c t)) n vs=w.alloc (.cells vs t):=by
 subst q
 unfold dF World.alloc
 congr 1
 apply Array.ext_getElem?
 intro k
 simp only [Array.getElem?_modify,Array.getElem?_push]
 by_cases m:k=w.heap.size
 ·subst m;simp [qj]
 ·simp [m,Ne.symm m]
theorem xB {o:Obj} (q:n<w.heap.size):dF (w.alloc o) n vs=(dF w n vs).alloc o:=by
 unfold dF World.alloc
 congr 1
 apply Array.ext_getElem?
 intro k
 simp only [Array.getElem?_modify,Array.getElem?_push,Array.size_modify]
 by_cases m:k=w.heap.size
 ·subst m;simp [Nat.ne_of_lt q]
 ·simp [m]
theorem KH:dF (dF w b vs) b us=dF w b us:=by
 unfold dF
 congr 1
 apply Array.ext_getElem?
 intro k
 simp only [Array.getElem?_modify]
 by_cases e:b=k
 ·subst e
  simp only [if_true]
  cases w.heap[b]? with
  | none=>rfl
  | some o=>cases o <;> rfl
 ·simp [e]
theorem Ez:(dF w b vs).setCell ⟨b,i,none⟩ v=dF w b (vs.setIfInBounds i v):=by
 unfold dF World.setCell
 congr 1
 apply Array.ext_getElem?
 intro k
 simp only [Array.getElem?_modify]
 by_cases e:b=k
 ·subst e
  simp only [if_true]
  cases w.heap[b]? with
  | none=>rfl
  | some o=>cases o <;> rfl
 ·simp [e]
theorem Oh:dF w.drew b vs=(dF w b vs).drew:=rfl
theorem Oi:hp w.drew b=hp w b:=rfl
theorem BR {o:Obj} (m:n=w.heap.size):hp (w.alloc o) n=some o:=by subst m;exact heap_alloc_new w o
theorem xC {o:Obj} (m:n<w.heap.size):hp (w.alloc o) n=hp w n:=Below.heap_alloc w o n m
theorem gG:hp (w.setCell ⟨b,i,none⟩ v) b=(hp w b).map (vD i v):=by
 simp only [hp,World.setCell,Array.getElem?_modify]
 cases w.heap[b]? with
 | none=>simp
 | some o=>cases o <;> simp [vD]
theorem I9 (h:b'<b):hp (w.setCell ⟨b,i,none⟩ v) b'=hp w b':=Below.heap_setCell w _ v b' (by simp;omega)
theorem IA (h:b<b'):hp (w.setCell ⟨b,i,none⟩ v) b'=hp w b':=Below.heap_setCell w _ v b' (by simp;omega)
theorem bE {r:Option Nat} (h:w.grownBy W r) (m:b<w.heap.size) (q:some b≠r):hp W b=hp w b:=h.block b m q
theorem BS {r m:Option Nat} (h:jI r m w W) (u:i<w.heap.size) (h1:some i≠r) (q:some i≠m):hp W i=hp w i:=h.2.2.2.2 i u h1 q
theorem bO {w:World} {b:Nat} {cs:Array Value} {t:TypeId} (h:hp w b=some (.cells cs t)):(∀ o,w.cell? ⟨b,o,none⟩=cs[o]?)∧(∀ o,w.frozen? ⟨b,o,none⟩=false)∧b<w.heap.size :=
 ⟨fun o=>cell_of_row w b o cs t _ h,fun o=>by have m:w.heap[b]?=some (.cells cs t):=h;simp [World.frozen?,m],(Array.getElem?_eq_some_iff.1 h).1⟩
theorem oW (h:Below n w W) (m:b<n):hp W b=hp w b:=h.block b m
theorem hQ {n:Nat} {w W:World} (h:Below n w W) {b:Nat} (m:b<n:=by ((try simp) <;> omega)):hp W b=hp w b:=oW h m
theorem q4 {n:Nat} {w W:World} (h:Below n w W) {b:Nat} (m:b+1+1+1<n:=by ((try simp) <;> omega)):hp W (b+1+1+1)=hp w (b+1+1+1)∧hp W (b+1+1)=hp w (b+1+1)∧hp W (b+1)=hp w (b+1)∧hp W b=hp w b:=⟨oW h tO,oW h tO,oW h tO,oW h tO⟩
theorem BK {lo:Nat} (h:Below lo w W) (q:lo≤b):Below lo w (dF W b vs) :=
 ⟨h.os,h.tape,h.output,by rw [aP];exact h.size,fun k m=>(aR tO).trans (h.block k m)⟩
theorem QK {g:Nat} (h:Gr g w W) (m:b=g∨w.heap.size≤b):Gr g w (dF W b vs) :=
 ⟨h.os,h.tape,h.output,by rw [aP];exact h.size,fun k r q=>(aR (by rcases m with m|m;exact fun e=>q (by rw [e,m]);omega)).trans (h.block k r q)⟩
theorem dZ {lo:Nat} {e:TypeId} {k m:Nat} {x:Value} {q:List Value} (h:w.ownsRow lo e k x m q) (hp:x.ownBlock≠some b):(dF w b vs).ownsRow lo e k x m q :=
 h.kept (row:=some b) ⟨rfl,rfl,rfl,by rw [aP];exact Nat.le_refl _,fun i _ r=>aR (fun e=>r (by rw [e]))⟩ (.inr hp)
theorem QM {r:Option Nat} {o:Obj} (h:w.grownBy W r):w.grownBy (W.alloc o) r:=⟨h.os,h.tape,h.output,Nat.le_trans h.size (by simp),fun k m q=>(Below.heap_alloc W o k (Nat.lt_of_lt_of_le m h.size)).trans (h.block k m q)⟩
theorem QN {r:Option Nat} (h:w.grownBy W r):w.grownBy W.drew r:=⟨h.os,h.tape,h.output,h.size,h.block⟩
theorem QP {r:Option Nat} {p:Addr} {u:Value} (h:w.grownBy W r) (hp:w.heap.size≤p.block):w.grownBy (W.setCell p u) r :=
 ⟨h.os,h.tape,h.output,by simpa [World.setCell] using h.size,fun k m q=>(Below.heap_setCell W p u k tO).trans (h.block k m q)⟩
theorem QQ {r:Option Nat} (h:w.grownBy W r) (u:w.heap.size≤b):w.grownBy (dF W b vs) r :=
 ⟨h.os,h.tape,h.output,by rw [aP];exact h.size,fun k m q=>(aR tO).trans (h.block k m q)⟩
theorem oA {r q:Option Nat} {o:Obj} (h:jI r q w W):jI r q w (W.alloc o) :=
 ⟨h.1,h.2.1,h.2.2.1,Nat.le_trans h.2.2.2.1 (by simp),fun k m h1 u=>(Below.heap_alloc W o k (Nat.lt_of_lt_of_le m h.2.2.2.1)).trans (h.2.2.2.2 k m h1 u)⟩
theorem oD {r m:Option Nat} (h:jI r m w W):jI r m w W.drew:=h
theorem oS {r m:Option Nat} {p:Addr} {u:Value} (h:jI r m w W) (hp:w.heap.size≤p.block):jI r m w (W.setCell p u) :=
 ⟨h.1,h.2.1,h.2.2.1,by simpa [World.setCell] using h.2.2.2.1,fun k y h1 q=>(Below.heap_setCell W p u k tO).trans (h.2.2.2.2 k y h1 q)⟩
theorem oX {r m:Option Nat} (h:jI r m w W) (y:w.heap.size≤b):jI r m w (dF W b vs) :=
 ⟨h.1,h.2.1,h.2.2.1,by rw [aP];exact h.2.2.2.1,fun k u h1 q=>(aR tO).trans (h.2.2.2.2 k u h1 q)⟩
variable {P:Program} {T:TypeId}
theorem nQ (r:∀ w,(isAgg T).run P w=.ok true w) (u:∀ w,(sizeOf T).run P w=.ok n w) (h:okO n (hp w b)=true) :
  (loadVar T ⟨b,0,none⟩).run P w=.ok (.agg (jP (hp w b))) w:=by
 unfold hp at *
 obtain ⟨c,t,e,y⟩:=vE h
 have h1:(loadCells ⟨b,0,none⟩ c.toList.length).run P w=.ok c.toList.toArray w:=run_loadCells_list w ⟨b,0,none⟩ c.toList (fun j v z=>by
  have m:(⟨b,0,none⟩:Addr).add j=⟨b,j,none⟩:=by by_cases q:j=0 <;> simp [Addr.add,q]
  rw [m]
  simp only [World.cell?,e]
  simpa using z)
 simp only [Array.length_toList,y] at h1
 rw [e,rU]
 simp only [loadVar,Sem.run_bind,r,u,Result.andThen_ok,if_true,h1,Sem.run_pure]
theorem qz (b:Nat):∀ (l:List Value) (o:Nat) (w:World),w.setCells b o l={ w with heap:=w.heap.modify b (fun x=>match x with|.cells c t fr=>.cells ((l.zipIdx o).foldl (fun c p=>c.setIfInBounds p.2 p.1) c) t fr|x=>x) }
 | [],o,w=>by
  unfold World.setCells
  have e:w.heap.modify b (fun x=>match x with|.cells c t fr=>.cells ((([]:List Value).zipIdx o).foldl (fun c p=>c.setIfInBounds p.2 p.1) c) t fr|x=>x)=w.heap:=by
   apply Array.ext_getElem?
   intro k
   simp only [Array.getElem?_modify]
   by_cases e:b=k
   ·subst e
    simp only [if_true]
    cases w.heap[b]? with
    | none=>rfl
    | some x=>cases x <;> rfl
   ·simp [e]
  rw [e]
 | v :: l,o,w=>by
  unfold World.setCells
  rw [qz b l (o+1)]
  simp only [World.setCell]
  congr 1
  apply Array.ext_getElem?
  intro k
  simp only [Array.getElem?_modify]
  by_cases e:b=k
  ·subst e
   simp only [if_true]
   cases w.heap[b]? with
   | none=>rfl
   | some x=>cases x <;> simp [List.zipIdx_cons]
  ·simp [e]
theorem BU:∀ (l:List Value) (o:Nat) (c:Array Value) (k:Nat),o+l.length≤c.size→((l.zipIdx o).foldl (fun c p=>c.setIfInBounds p.2 p.1) c)[k]?=if o≤k∧k<o+l.length then l[k - o]? else c[k]?
 | [],o,c,k,_=>by
  have:¬ (o≤k∧k<o+([]:List Value).length):=by simp
  rw [if_neg this];rfl
 | v :: l,o,c,k,h=>by
  simp only [List.zipIdx_cons,List.foldl_cons,List.length_cons] at *
  rw [BU l (o+1) _ k (by rw [Array.size_setIfInBounds];omega)]
  by_cases e:k=o
  ·subst e
   rw [if_neg tO,if_pos tO,Array.getElem?_setIfInBounds,if_pos rfl,if_pos tO];simp
  ·by_cases q:o+1≤k∧k<o+1+l.length
   ·rw [if_pos q,if_pos tO]
    obtain ⟨m,rfl⟩:∃ m,k=o+1+m:=⟨k - (o+1),by omega⟩
    rw [show o+1+m - (o+1)=m by omega,show o+1+m - o=m+1 by omega];rfl
   ·rw [if_neg q,if_neg tO,Array.getElem?_setIfInBounds,if_neg (fun h=>e h.symm)]
theorem KI (m c:Array Value) (h:c.size=m.size):((m.toList.zipIdx 0).foldl (fun c p=>c.setIfInBounds p.2 p.1) c)=m:=by
 apply Array.ext_getElem?
 intro k
 rw [BU _ _ _ _ (by simp;omega)]
 by_cases e:k<m.size
 ·rw [if_pos (by simp;omega)];simp
 ·rw [if_neg (by simp;omega),Array.getElem?_eq_none tO,Array.getElem?_eq_none tO]
theorem pJ (h:okO n (hp w b)=true) (z:vs.size=n) (h1:∀ v ∈ vs.toList,v.oneCell'=true) :
  (storeCells ⟨b,0,none⟩ vs.toList).run P w=.ok () (dF w b vs):=by
 unfold hp at h
 obtain ⟨c,t,e,y⟩:=vE h
 have q:=run_storeCells_cells (P:=P) b 0 vs.toList 0 w (fun j r=>by
   have:j<c.size:=by rw [y,← z];simpa using r
   simp [World.cell?,e,this]) (fun j r=>by simp [World.frozen?,e]) h1
 have u:w.setCells b (0+0) vs.toList=dF w b vs:=by
  rw [qz]
  unfold dF
  congr 1
  apply Array.ext_getElem?
  intro k
  simp only [Array.getElem?_modify]
  by_cases m:b=k
  ·subst m
   simp only [if_true,e,Option.map_some,qj]
   rw [KI vs c tO]
  ·simp [m]
 rw [u] at q
 exact q
theorem yK (r:∀ w,(sizeOf T).run P w=.ok n w) (h:okO n (hp w b)=true) (m:vs.size=n) (h1:∀ v ∈ vs.toList,v.oneCell'=true) :
  (storeVar T ⟨b,0,none⟩ (.agg vs)).run P w=.ok () (dF w b vs):=by
 have q:=pJ (P:=P) h m h1
 simp only [storeVar,Sem.run_bind,r,Result.andThen_ok,Value.cells,m,ne_eq,not_true_eq_false,if_false]
 simpa using q
variable {fn:Func} {p q u:Tmp} {S:TypeId} {tmps:Array Value} {a a':Addr} {x y:Value}
theorem jy (h:fn.results=#[.cell p T]) (hp:tmps.getD p undef=.pointer (some a)) (m:(loadVar T a).run P w=.ok x w):(results fn tmps).run P w=.ok x w:=by
 simp only [results,h]
 simp [Sem.run_bind,Result.andThen,asAddr] at *
 simp [hp,m]
theorem j5 (h:fn.results=#[.cell p T,.tmp u]) (hp:tmps.getD p undef=.pointer (some a)) (m:(loadVar T a).run P w=.ok x w):(results fn tmps).run P w=.ok (.tuple #[x,tmps.getD u undef]) w:=by
 simp only [results,h]
 simp [Sem.run_bind,Result.andThen,asAddr] at *
 simp [hp,m]
theorem rq (h:fn.results=#[.cell p T,.cell q S]) (hp:tmps.getD p undef=.pointer (some a)) (u:(loadVar T a).run P w=.ok x w) (r:tmps.getD q undef=.pointer (some a')) (m:(loadVar S a').run P w=.ok y w):(results fn tmps).run P w=.ok (.tuple #[x,y]) w:=by
 simp only [results,h]
 simp [Sem.run_bind,Result.andThen,asAddr] at *
 simp [hp,u,r,m]
theorem jZ (h:fn.results=#[.cell p T,.cell q S,.tmp u]) (hp:tmps.getD p undef=.pointer (some a)) (z:(loadVar T a).run P w=.ok x w) (r:tmps.getD q undef=.pointer (some a')) (m:(loadVar S a').run P w=.ok y w):(results fn tmps).run P w=.ok (.tuple #[x,y,tmps.getD u undef]) w:=by
 simp only [results,h]
 simp [Sem.run_bind,Result.andThen,asAddr] at *
 simp [hp,z,r,m]
theorem QR {n:Nat} {w W:World} (h:Below n w W) {b:Nat} (m:b+1<n:=by ((try simp) <;> omega)):hp W (b+1)=hp w (b+1)∧hp W (b)=hp w (b):=⟨oW h tO,oW h tO⟩
theorem Rj {n:Nat} {w W:World} (h:Below n w W) {b:Nat} (m:b+1+1+1+1<n:=by ((try simp) <;> omega)):hp W (b+1+1+1+1)=hp w (b+1+1+1+1)∧hp W (b+1+1+1)=hp w (b+1+1+1)∧hp W (b+1+1)=hp w (b+1+1)∧hp W (b+1)=hp w (b+1)∧hp W (b)=hp w (b):=⟨oW h tO,oW h tO,oW h tO,oW h tO,oW h tO⟩
theorem Ro {r:Option Nat} {w W:World} (h:w.grownBy W r) {b:Nat} (q:b<w.heap.size:=by ((try simp) <;> omega)) (m:some (b)≠r:=by assumption):hp W (b)=hp w (b):=bE h tO m
theorem PM {r:Option Nat} {w W:World} (h:w.grownBy W r) {b:Nat} (y:b+1+1+1<w.heap.size:=by ((try simp) <;> omega)) (u:some (b+1+1+1)≠r:=by assumption) (q:some (b+1+1)≠r:=by assumption) (h1:some (b+1)≠r:=by assumption) (m:some (b)≠r:=by assumption):hp W (b+1+1+1)=hp w (b+1+1+1)∧hp W (b+1+1)=hp w (b+1+1)∧hp W (b+1)=hp w (b+1)∧hp W (b)=hp w (b):=⟨bE h tO u,bE h tO q,bE h tO h1,bE h tO m⟩
theorem Rk {r:Option Nat} {w W:World} (h:w.grownBy W r) {b:Nat} (z:b+1+1+1+1<w.heap.size:=by ((try simp) <;> omega)) (y:some (b+1+1+1+1)≠r:=by assumption) (u:some (b+1+1+1)≠r:=by assumption) (q:some (b+1+1)≠r:=by assumption) (h1:some (b+1)≠r:=by assumption) (m:some (b)≠r:=by assumption):hp W (b+1+1+1+1)=hp w (b+1+1+1+1)∧hp W (b+1+1+1)=hp w (b+1+1+1)∧hp W (b+1+1)=hp w (b+1+1)∧hp W (b+1)=hp w (b+1)∧hp W (b)=hp w (b):=⟨bE h tO y,bE h tO u,bE h tO q,bE h tO h1,bE h tO m⟩
theorem oZ {w W:World} (h:Below w w W) {b:Nat} (m:b<w.heap.size:=by ((try simp) <;> omega)):(∀ o,W.cell? ⟨b,o,none⟩=w.cell? ⟨b,o,none⟩)∧(∀ o,W.frozen? ⟨b,o,none⟩=w.frozen? ⟨b,o,none⟩)∧b<W.heap.size:=⟨fun o=>h.cell (p:=⟨b,o,none⟩) m,fun o=>h.frozen (p:=⟨b,o,none⟩) m,Nat.lt_of_lt_of_le m h.size⟩
theorem zG {g:Nat} {w W:World} (h:Gr g w W:=by (repeat (first|with_reducible assumption|with_reducible exact gR _ _|with_reducible refine gA ?_|with_reducible refine gD ?_|with_reducible refine gS ?_ (.inl rfl)|((with_reducible refine QK ?_ (.inr ?_));rotate_left;(focus ((try dsimp only);(try simp);(try omega))))|((with_reducible refine gS ?_ (.inr ?_));rotate_left;(focus ((try dsimp only);(try simp);(try omega))))))):Gr g w W:=h
theorem zN {r m:Option Nat} {w W:World} (h:jI r m w W:=by (repeat (first|with_reducible assumption|with_reducible refine oA ?_|with_reducible refine oD ?_|((with_reducible refine oX ?_ ?_);rotate_left;(focus ((try dsimp only);(try simp);(try omega))))|((with_reducible refine oS ?_ ?_);rotate_left;(focus ((try dsimp only);(try simp);(try omega))))))):jI r m w W:=h
theorem PD {w:World} {m:Nat} {c0:Array Value} {q:TypeId} (h:hp w m=some (.cells c0 q)):(hp w m=some (.cells c0 q)∧(∀ o,w.cell? ⟨m,o,none⟩=c0[o]?)∧(∀ o,w.frozen? ⟨m,o,none⟩=false)∧m<w.heap.size):=⟨h,bO h⟩
theorem uV {w:World} {m q:Nat} {c0 r:Array Value} {u y:TypeId} (h:hp w m=some (.cells c0 u)∧hp w q=some (.cells r y)):(hp w m=some (.cells c0 u)∧(∀ o,w.cell? ⟨m,o,none⟩=c0[o]?)∧(∀ o,w.frozen? ⟨m,o,none⟩=false)∧m<w.heap.size)∧(hp w q=some (.cells r y)∧(∀ o,w.cell? ⟨q,o,none⟩=r[o]?)∧(∀ o,w.frozen? ⟨q,o,none⟩=false)∧q<w.heap.size):=⟨⟨h.1,bO h.1⟩,h.2,bO h.2⟩
theorem ql {w:World} {m q r:Nat} {c0 u c2:Array Value} {y z A:TypeId} (h:hp w m=some (.cells c0 y)∧hp w q=some (.cells u z)∧hp w r=some (.cells c2 A)):(hp w m=some (.cells c0 y)∧(∀ o,w.cell? ⟨m,o,none⟩=c0[o]?)∧(∀ o,w.frozen? ⟨m,o,none⟩=false)∧m<w.heap.size)∧(hp w q=some (.cells u z)∧(∀ o,w.cell? ⟨q,o,none⟩=u[o]?)∧(∀ o,w.frozen? ⟨q,o,none⟩=false)∧q<w.heap.size)∧(hp w r=some (.cells c2 A)∧(∀ o,w.cell? ⟨r,o,none⟩=c2[o]?)∧(∀ o,w.frozen? ⟨r,o,none⟩=false)∧r<w.heap.size):=⟨⟨h.1,bO h.1⟩,⟨h.2.1,bO h.2.1⟩,h.2.2,bO h.2.2⟩
theorem dW {w:World} {m q r u:Nat} {c0 y c2 c3:Array Value} {z A D E:TypeId} (h:hp w m=some (.cells c0 z)∧hp w q=some (.cells y A)∧hp w r=some (.cells c2 D)∧hp w u=some (.cells c3 E)):(hp w m=some (.cells c0 z)∧(∀ o,w.cell? ⟨m,o,none⟩=c0[o]?)∧(∀ o,w.frozen? ⟨m,o,none⟩=false)∧m<w.heap.size)∧(hp w q=some (.cells y A)∧(∀ o,w.cell? ⟨q,o,none⟩=y[o]?)∧(∀ o,w.frozen? ⟨q,o,none⟩=false)∧q<w.heap.size)∧(hp w r=some (.cells c2 D)∧(∀ o,w.cell? ⟨r,o,none⟩=c2[o]?)∧(∀ o,w.frozen? ⟨r,o,none⟩=false)∧r<w.heap.size)∧(hp w u=some (.cells c3 E)∧(∀ o,w.cell? ⟨u,o,none⟩=c3[o]?)∧(∀ o,w.frozen? ⟨u,o,none⟩=false)∧u<w.heap.size):=⟨⟨h.1,bO h.1⟩,⟨h.2.1,bO h.2.1⟩,⟨h.2.2.1,bO h.2.2.1⟩,h.2.2.2,bO h.2.2.2⟩
theorem ll {w:World} {m q r u y:Nat} {c0 z c2 c3 c4:Array Value} {A D E F G:TypeId} (h:hp w m=some (.cells c0 A)∧hp w q=some (.cells z D)∧hp w r=some (.cells c2 E)∧hp w u=some (.cells c3 F)∧hp w y=some (.cells c4 G)):(hp w m=some (.cells c0 A)∧(∀ o,w.cell? ⟨m,o,none⟩=c0[o]?)∧(∀ o,w.frozen? ⟨m,o,none⟩=false)∧m<w.heap.size)∧(hp w q=some (.cells z D)∧(∀ o,w.cell? ⟨q,o,none⟩=z[o]?)∧(∀ o,w.frozen? ⟨q,o,none⟩=false)∧q<w.heap.size)∧(hp w r=some (.cells c2 E)∧(∀ o,w.cell? ⟨r,o,none⟩=c2[o]?)∧(∀ o,w.frozen? ⟨r,o,none⟩=false)∧r<w.heap.size)∧(hp w u=some (.cells c3 F)∧(∀ o,w.cell? ⟨u,o,none⟩=c3[o]?)∧(∀ o,w.frozen? ⟨u,o,none⟩=false)∧u<w.heap.size)∧(hp w y=some (.cells c4 G)∧(∀ o,w.cell? ⟨y,o,none⟩=c4[o]?)∧(∀ o,w.frozen? ⟨y,o,none⟩=false)∧y<w.heap.size):=⟨⟨h.1,bO h.1⟩,⟨h.2.1,bO h.2.1⟩,⟨h.2.2.1,bO h.2.2.1⟩,⟨h.2.2.2.1,bO h.2.2.2.1⟩,h.2.2.2.2,bO h.2.2.2.2⟩
theorem Rp {w:World} {m q r u y z:Nat} {c0 A c2 c3 c4 c5:Array Value} {D E F G H I:TypeId} (h:hp w m=some (.cells c0 D)∧hp w q=some (.cells A E)∧hp w r=some (.cells c2 F)∧hp w u=some (.cells c3 G)∧hp w y=some (.cells c4 H)∧hp w z=some (.cells c5 I)):(hp w m=some (.cells c0 D)∧(∀ o,w.cell? ⟨m,o,none⟩=c0[o]?)∧(∀ o,w.frozen? ⟨m,o,none⟩=false)∧m<w.heap.size)∧(hp w q=some (.cells A E)∧(∀ o,w.cell? ⟨q,o,none⟩=A[o]?)∧(∀ o,w.frozen? ⟨q,o,none⟩=false)∧q<w.heap.size)∧(hp w r=some (.cells c2 F)∧(∀ o,w.cell? ⟨r,o,none⟩=c2[o]?)∧(∀ o,w.frozen? ⟨r,o,none⟩=false)∧r<w.heap.size)∧(hp w u=some (.cells c3 G)∧(∀ o,w.cell? ⟨u,o,none⟩=c3[o]?)∧(∀ o,w.frozen? ⟨u,o,none⟩=false)∧u<w.heap.size)∧(hp w y=some (.cells c4 H)∧(∀ o,w.cell? ⟨y,o,none⟩=c4[o]?)∧(∀ o,w.frozen? ⟨y,o,none⟩=false)∧y<w.heap.size)∧(hp w z=some (.cells c5 I)∧(∀ o,w.cell? ⟨z,o,none⟩=c5[o]?)∧(∀ o,w.frozen? ⟨z,o,none⟩=false)∧z<w.heap.size):=⟨⟨h.1,bO h.1⟩,⟨h.2.1,bO h.2.1⟩,⟨h.2.2.1,bO h.2.2.1⟩,⟨h.2.2.2.1,bO h.2.2.2.1⟩,⟨h.2.2.2.2.1,bO h.2.2.2.2.1⟩,h.2.2.2.2.2,bO h.2.2.2.2.2⟩
theorem BL {n:Nat} {w W:World} (h:Below n w W) {b:Nat} (m:b+1+1+1<n:=by ((try simp) <;> omega)):hp W (b+1+1+1)=hp w (b+1+1+1)∧hp W (b+1+1)=hp w (b+1+1)∧hp W (b+1)=hp w (b+1)∧hp W b=hp w b:=q4 h m
theorem Rl {w W m:World} (q:Below w w W) (h:Below W W m) {b:Nat} (r:b<W.heap.size:=by ((try simp) <;> omega)):Below w w m∧W≤m.heap.size∧hp m (b)=hp W (b):=⟨bT q h,h.size,oW h tO⟩
theorem BM {w W m:World} (q:Below w w W) (h:Below W W m) {b:Nat} (r:b+1<W.heap.size:=by ((try simp) <;> omega)):Below w w m∧W≤m.heap.size∧hp m (b+1)=hp W (b+1)∧hp m (b)=hp W (b):=⟨bT q h,h.size,oW h tO,oW h tO⟩
theorem uW {w W m:World} (q:Below w w W) (h:Below W W m) {b:Nat} (r:b+1+1<W.heap.size:=by ((try simp) <;> omega)):Below w w m∧W≤m.heap.size∧hp m (b+1+1)=hp W (b+1+1)∧hp m (b+1)=hp W (b+1)∧hp m (b)=hp W (b):=⟨bT q h,h.size,oW h tO,oW h tO,oW h tO⟩
theorem fH {w W m:World} (q:Below w w W) (h:Below W W m) {b:Nat} (r:b+1+1+1<W.heap.size:=by ((try simp) <;> omega)):Below w w m∧W≤m.heap.size∧hp m (b+1+1+1)=hp W (b+1+1+1)∧hp m (b+1+1)=hp W (b+1+1)∧hp m (b+1)=hp W (b+1)∧hp m (b)=hp W (b):=⟨bT q h,h.size,oW h tO,oW h tO,oW h tO,oW h tO⟩
theorem yL {w W m:World} (q:Below w w W) (h:Below W W m) {b:Nat} (r:b+1+1+1+1<W.heap.size:=by ((try simp) <;> omega)):Below w w m∧W≤m.heap.size∧hp m (b+1+1+1+1)=hp W (b+1+1+1+1)∧hp m (b+1+1+1)=hp W (b+1+1+1)∧hp m (b+1+1)=hp W (b+1+1)∧hp m (b+1)=hp W (b+1)∧hp m (b)=hp W (b):=⟨bT q h,h.size,oW h tO,oW h tO,oW h tO,oW h tO,oW h tO⟩
theorem aT {w W:World} {a:Option Addr} {n k:Nat} {f:Nat→Nat→Value} (h:Hid (Seg w w a n k f)) (m:Below w w W):Seg W W a n k f:=(h.out.below m).more m.size
theorem kY {w:World} {lo:Nat} {e:TypeId} {k n:Nat} {v:Value} {q:List Value} (h:w.ownsRow lo e k v n q):∀ j,v.ownBlock=some j→j<w.heap.size:=fun j m=>(h.lt j m).2
theorem nO {w:World} {v:Value} (b:∀ j,v.ownBlock=some j→j<w.heap.size):∀ j,w.heap.size≤j→some j≠v.ownBlock:=fun j m e=>by have:=b _ e.symm;omega
theorem rR {w:World} {lo:Nat} {m q:Value} {cs:List C3} {D:List Int} (h1:aD w lo m cs) (y:aG w lo q D):∃ (r:Option Addr) (z:Nat) (u:Option Addr) (A:Nat),m=.slice r cs.length z∧q=.slice u D.length A∧Hid (aD w lo m cs)∧Hid (aG w lo q D)∧(∀ j,m.ownBlock=some j→j<w.heap.size)∧(∀ j,q.ownBlock=some j→j<w.heap.size):=by
 obtain ⟨r,z,E,_⟩:=aD.seg h1
 obtain ⟨u,A,F,_⟩:=aG.seg y
 exact ⟨r,z,u,A,E,F,h1,y,kY h1,kY y⟩
theorem Ep {w:World} {lo:Nat} {m q:Value} {cs:List C3} {F:List Int} (h1:aD w lo m cs) (y:aG w lo q F):∃ (z:Option Addr) (D:Nat) (A:Option Addr) (E:Nat),m=.slice z cs.length D∧q=.slice A F.length E∧aD w lo m cs∧aG w lo q F∧(∀ j,m.ownBlock=some j→j<w.heap.size)∧(∀ j,q.ownBlock=some j→j<w.heap.size)∧(∀ j,w.heap.size≤j→some j≠m.ownBlock)∧(∀ j,w.heap.size≤j→some j≠q.ownBlock)∧some (w.heap.size)≠m.ownBlock∧some (w.heap.size)≠q.ownBlock∧some (w.heap.size+1)≠m.ownBlock∧some (w.heap.size+1)≠q.ownBlock∧some (w.heap.size+1+1)≠m.ownBlock∧some (w.heap.size+1+1)≠q.ownBlock∧some (w.heap.size+1+1+1)≠m.ownBlock∧some (w.heap.size+1+1+1)≠q.ownBlock:=by
 obtain ⟨z,D,G,_⟩:=aD.seg h1
 obtain ⟨A,E,H,_⟩:=aG.seg y
 have r:=nO (kY h1)
 have u:=nO (kY y)
 exact ⟨z,D,A,E,G,H,h1,y,kY h1,kY y,r,u,r _ tO,u _ tO,r _ tO,u _ tO,r _ tO,u _ tO,r _ tO,u _ tO⟩
theorem tZ {P:Prop} (h:P:=by simp [go_sem, *] <;> rfl):P:=h
theorem tY {P:Prop} (h:P:=by simp [go_sem, *]):P:=h
theorem kG {w:World} {lo:Nat} {e:TypeId} {k n:Nat} {v:Value} {u:List Value} (h:w.ownsRow lo e k v n u) (m:Nat) (r:m≤lo:=by ((try simp) <;> omega)):∀ j,v.ownBlock=some j→m≤j:=fun j q=>Nat.le_trans r (h.lt j q).1
theorem xD {r m:Option Nat} {w W:World} (h:jI r m w W) {b:Nat} (F:b+1+1+1<w.heap.size:=by ((try simp) <;> omega)) (E:some (b+1+1+1)≠r:=by assumption) (z:some (b+1+1+1)≠m:=by assumption) (D:some (b+1+1)≠r:=by assumption) (y:some (b+1+1)≠m:=by assumption) (h1:some (b+1)≠r:=by assumption) (u:some (b+1)≠m:=by assumption) (A:some (b)≠r:=by assumption) (q:some (b)≠m:=by assumption):hp W (b+1+1+1)=hp w (b+1+1+1)∧hp W (b+1+1)=hp w (b+1+1)∧hp W (b+1)=hp w (b+1)∧hp W (b)=hp w (b):=⟨BS h tO E z,BS h tO D y,BS h tO h1 u,BS h tO A q⟩
theorem mF {a b:Nat} (h:a+1+1+1<b:=by omega):a<b∧a+1<b∧a+1+1<b∧a+1+1+1<b:=⟨by omega,by omega,by omega,h⟩
theorem rE {R:Ending→World→Prop} {m:List Deferred} {w:World} (h:fn.results=#[.cell p T,.cell q S,.tmp u]) (hp:tmps.getD p undef=.pointer (some a)) (E:(loadVar T a).run P w=.ok x w) (z:tmps.getD q undef=.pointer (some a')) (r:(loadVar S a').run P w=.ok y w) (A:R (.returned (.tuple #[x,y,tmps.getD u undef])) w) (D:m=[]:=by rfl):bodyPost P fn R .ret { tmps:=tmps,defers:=m } w:=bodyPost_ret (jZ h hp E z r) D A
end
section
open Go.RowKit
theorem ni (k e:Int) (w:World):Calls prog 170 #[.agg #[.int .i64 k,.int .i64 e]] w fun r w'=>r=.returned (.bool (eB k e))∧Below w w w':=by
 go_enter func170,ntmps170
 go_wp2_with (go_at_call 122;refine (mQ _ _).mono ?_;rintro _ _ ⟨rfl,rfl⟩)
 all_goals go_ret
 all_goals exact ⟨dB (by simp_all [eB]),by exact zB⟩
theorem oz (k e x:Int) (w:World):Calls prog 120 #[.agg #[.int .i64 k,.int .i64 e],.int .i64 x] w fun r w'=>r=.returned (.bool (kM k e x))∧Below w w w':=by
 go_enter func120,ntmps120
 go_wp2_with (first|(go_at_call 170;refine (ni _ _ _).mono ?_;rintro _ u ⟨rfl,m⟩;have y:Below w w u:=bT zB m;have q:=m.size;(try (simp at q));have:=fun o=>m.cell (p:=⟨w,o,none⟩) (by ((try simp);(try omega)));have:=fun o=>m.frozen (p:=⟨w,o,none⟩) (by ((try simp);(try omega)));have:w<u.heap.size:=tO;have:w≤u.heap.size:=tO;have:w≤u.heap.size+1:=tO)|(go_at_call 121;refine (gQ _ _ _ _).mono ?_;rintro _ _ ⟨rfl,rfl⟩))
 all_goals go_ret
 all_goals exact ⟨dB (by simp_all [kM]),by exact zB⟩
theorem E5 (k e:Int) (w:World):Calls prog 169 #[.agg #[.int .i64 k,.int .i64 e]] w fun r w'=>r=.returned (.bool (sV k e))∧Below w w w':=by
 go_enter func169,ntmps169
 go_wp2
 all_goals go_ret
 all_goals exact ⟨dB (by simp_all [sV]),by exact zB⟩
end
section
open Go.RowKit
theorem KJ:(Tryz.prog.info? 49).map (fun i=>(i.zero,i.size,i.bytes))=some (some (.agg (aB Ha.zero)),14,112):=by kernel_rfl
theorem KL:(Tryz.prog.info? 31).map (fun i=>(i.zero,i.size,i.bytes))=some (some (.agg (aF Ch.zero (.slice none 0 0) (.slice none 0 0))),6,80):=by kernel_rfl
theorem aQ (w:World):(zeroValue 49).run prog w=.ok (.agg (aB Ha.zero)) w:=by
 obtain ⟨i,m,q,_⟩:=info_parts KJ
 have e:Tryz.prog.info? 49=some Tryz.t49:=by kernel_rfl
 obtain rfl:Tryz.t49=i:=by rw [e] at m;exact Option.some.inj m
 simp [zeroValue,go_sem,q]
theorem bF (w:World):(zeroValue 31).run prog w=.ok (.agg (aF Ch.zero (.slice none 0 0) (.slice none 0 0))) w:=by
 obtain ⟨i,m,q,_⟩:=info_parts KL
 have e:Tryz.prog.info? 31=some Tryz.t31:=by kernel_rfl
 obtain rfl:Tryz.t31=i:=by rw [e] at m;exact Option.some.inj m
 simp [zeroValue,go_sem,q]
theorem Oj (w:World):(isAgg 49).run prog w=.ok true w:=by simp [isAgg,go_sem]
theorem Ol (w:World):(isAgg 31).run prog w=.ok true w:=by simp [isAgg,go_sem]
theorem KM (w:World):(sizeOf 49).run prog w=.ok 14 w:=by simp [go_sem]
theorem Hf (w:World):(sizeOf 31).run prog w=.ok 6 w:=by simp [go_sem]
variable {w:World} {b:Nat}
theorem sZ (h:okO 14 (hp w b)=true):(loadVar 49 ⟨b,0,none⟩).run prog w=.ok (.agg (jP (hp w b))) w:=nQ Oj KM h
theorem tu (h:okO 6 (hp w b)=true):(loadVar 31 ⟨b,0,none⟩).run prog w=.ok (.agg (jP (hp w b))) w:=nQ Ol Hf h
theorem KN (h:okO 14 (hp w b)=true):(Instr.loadAt 49 (.pointer (some ⟨b,0,none⟩))).run prog w=.ok (.agg (jP (hp w b))) w:=by
 simp only [Instr.loadAt,Instr.sureAddr,Sem.run_bind,Sem.run_pure,Result.andThen_ok,sZ h]
theorem KO (h:okO 6 (hp w b)=true):(Instr.loadAt 31 (.pointer (some ⟨b,0,none⟩))).run prog w=.ok (.agg (jP (hp w b))) w:=by
 simp only [Instr.loadAt,Instr.sureAddr,Sem.run_bind,Sem.run_pure,Result.andThen_ok,tu h]
theorem aX (x:Ha) (h:okO 14 (hp w b)=true):(Instr.storeAt 49 (.pointer (some ⟨b,0,none⟩)) (.agg (aB x))).run prog w=.ok () (dF w b (aB x)):=by
 simp only [Instr.storeAt,Instr.sureAddr,Sem.run_bind,Sem.run_pure,Result.andThen_ok]
 exact yK KM h rfl (by simp [aB,Value.oneCell'])
theorem bB (c:Ch) (x y:Option Addr) (n p m q:Nat) (h:okO 6 (hp w b)=true):(Instr.storeAt 31 (.pointer (some ⟨b,0,none⟩)) (.agg (aF c (.slice x n p) (.slice y m q)))).run prog w=.ok () (dF w b (aF c (.slice x n p) (.slice y m q))):=by
 simp only [Instr.storeAt,Instr.sureAddr,Sem.run_bind,Sem.run_pure,Result.andThen_ok]
 exact yK Hf h rfl (by simp [aF,Value.oneCell'])
theorem aN (x:Ha) (h:okO 14 (hp w b)=true):(storeCells ⟨b,0,none⟩ (aB x).toList).run prog w=.ok () (dF w b (aB x)):=pJ h rfl (by simp [aB,Value.oneCell'])
theorem aU (c:Ch) (x y:Option Addr) (n p m q:Nat) (h:okO 6 (hp w b)=true):(storeCells ⟨b,0,none⟩ (aF c (.slice x n p) (.slice y m q)).toList).run prog w=.ok () (dF w b (aF c (.slice x n p) (.slice y m q))):=pJ h rfl (by simp [aF,Value.oneCell'])
def jU (x:Value):Sem Value:=Instr.loadAt 49 x
def KP (x:Addr):Sem Value:=loadVar 49 x
theorem aY (x:Value):Instr.loadAt 49 x=jU x:=by unfold jU;simp
theorem aZ (x:Addr):loadVar 49 x=KP x:=by unfold KP;simp
theorem KQ (h:okO 14 (hp w b)=true):(jU (.pointer (some ⟨b,0,none⟩))).run prog w=.ok (.agg (jP (hp w b))) w:=KN h
theorem KR (h:okO 14 (hp w b)=true):(KP ⟨b,0,none⟩).run prog w=.ok (.agg (jP (hp w b))) w:=sZ h
def BV (x:Value):Sem Value:=Instr.loadAt 31 x
def KS (x:Addr):Sem Value:=loadVar 31 x
theorem bY (x:Value):Instr.loadAt 31 x=BV x:=by unfold BV;simp
theorem bZ (x:Addr):loadVar 31 x=KS x:=by unfold KS;simp
theorem KT (h:okO 6 (hp w b)=true):(BV (.pointer (some ⟨b,0,none⟩))).run prog w=.ok (.agg (jP (hp w b))) w:=KO h
theorem KU (h:okO 6 (hp w b)=true):(KS ⟨b,0,none⟩).run prog w=.ok (.agg (jP (hp w b))) w:=tu h
theorem aJ (x:Ha) (h:hp w b=some (.cells (aB x) 49)):(loadVar 49 ⟨b,0,none⟩).run prog w=.ok (.agg (aB x)) w:=by
 have:=sZ (w:=w) (b:=b) (by rw [h];simp [okO,qi])
 rw [h] at this
 exact this
theorem aO (c:Ch) (x y:Value) (h:hp w b=some (.cells (aF c x y) 31)):(loadVar 31 ⟨b,0,none⟩).run prog w=.ok (.agg (aF c x y)) w:=by
 have:=tu (w:=w) (b:=b) (by rw [h];simp [okO,He])
 rw [h] at this
 exact this
attribute [go_sem] KQ KR aP vF Eu Ev Ew Ex Ey I8 BQ xB KH Ez Oh Oi BR xC gG I9 IA I7 rU xA eZ Option.map_some QG QH QI QJ Ql qi zU Nv Nw Ny Nz N7 N8 NA NB NC ND NF NG NH NI NJ NK NL NM NN K8 K9 KA KC KD KE KF KG
attribute [go_sem] KT KU Qm He NQ NR NS NT NU NZ Oa Ob Oc Oe Od Og
end
section
abbrev St:=Ch × Ha × Bool
def bJ (c:Ch) (h:Ha) (f t k:Int):Bool:=aW c && (bM h && (dA h.pos f t && (k == 0 || h.code == k)))
def nothing:St:=(Ch.zero,Ha.zero,false)
def done (c:Ch) (h:Ha):St:=if aW c && bM h then (c,h,true) else nothing
def anew (h:Ha):Ha:=begun h.code h.elem h.beg
def cellAt (c:Ch) (i:Int):C3:=c.cells.getD i.toNat ⟨0,0,0⟩
def setAt (c:Ch) (i:Int) (x:C3):Ch:={ c with cells:=c.cells.set i.toNat x }
def cB (c:Ch) (i st:Int):Ch:=setAt c i { cellAt c i with s:=st }
def lG (x:C3) (f t v:Int):C3:=⟨ng x.s x.e x.t f t v,x.e,vz x.s x.e x.t f t v⟩
def vH (x:C3) (f t v:Int):Bool:=jS x.s x.e x.t f t v
def bK (c:Ch) (i f t v:Int):Ch:=setAt c i (lG (cellAt c i) f t v)
def bQ (c:Ch) (i f t v:Int):Bool:=vH (cellAt c i) f t v
def cZ (h:Ha) (x:C3):Ha:={ h with seen:=x.s,wait:=x.t }
def kv (c:Ch) (h:Ha):Ha × Bool :=
 let x:=cellAt c h.cell
 let y:=cZ h x
 if x.s == 0 then ({ y with pos:=4 },true) else if x.s == 1 then ({ y with pos:=6 },true) else if x.s == 4 then ({ y with pos:=7 },true)
 else if x.s == 8 then (anew y,true) else if x.s == 10 then (anew y,true) else (y,false)
def mR (c:Ch) (h:Ha):Ch × Ha:=(dM c h.wait 1,if eY c h.wait 1 then { h with pos:=8 } else anew h)
def fP (c:Ch) (h:Ha) (st th el:Int):Ch × Ha :=
 if 80≤c.words.length then (c,aV 4 0) else
 if bQ c h.cell h.seen st (c.words.length+1) then ({ bK c h.cell h.seen st (c.words.length+1) with words:=c.words ++ [0] },{ h with mine:=c.words.length+1,pos:=th })
 else (bK c h.cell h.seen st (c.words.length+1),{ h with pos:=el })
def jQ (c:Ch) (h:Ha):St :=
 if h.seen != 0 && h.seen != 1 then nothing else
 if h.seen == 0 && (decide (h.come≤h.cell) && decide (h.fin≤h.cell)) then done (fP c h 3 23 3).1 (fP c h 3 23 3).2 else
 if bQ c h.cell h.seen 2 0 then done (bK c h.cell h.seen 2 0) (aV 1 0) else done (bK c h.cell h.seen 2 0) { h with pos:=3 }
def uk (c:Ch) (h:Ha):St:=if c.sent == 40 then done c (aV 4 0) else done { c with sent:=c.sent+1 } { h with cell:=c.sent,pos:=2 }
def nR (c:Ch) (i m:Int):Ch:=setAt c i { cellAt c i with e:=mE (cellAt c i).s (cellAt c i).e (cellAt c i).t m }
def Hg (c:Ch) (h:Ha):St:=done (nR c h.cell h.elem) { h with pos:=3 }
def vI (c:Ch) (h:Ha):St:=if (kv c h).2 then done c (kv c h).1 else nothing
def bI (c:Ch) (h:Ha):St :=
 if bJ c h 1 8 1 then
  if h.pos == 1 then uk c h else if h.pos == 2 then Hg c h else if h.pos == 3 then vI c h
  else if h.pos == 4 then done c { h with fin:=c.fin,pos:=5 } else if h.pos == 5 then done c { h with come:=c.got,pos:=6 }
  else if h.pos == 6 then jQ c h else if h.pos == 7 then done (mR c h).1 (mR c h).2 else done (cB c h.cell 7) (aV 1 0)
 else nothing
end
section
def eD (h:Ha) (x:C3):Ha:={ h with seen:=x.s,wait:=x.t,out:=x.e }
def iY (c:Ch) (h:Ha):Ha × Bool :=
 let x:=cellAt c h.cell
 let y:=eD h x
 if x.s == 0 then ({ y with pos:=11 },true) else if x.s == 1 then ({ y with pos:=11 },true) else if x.s == 2 then ({ y with pos:=12 },true)
 else if x.s == 3 then ({ y with pos:=12 },true) else if x.s == 9 then (anew y,true) else (y,false)
def eQ (h:Ha) (t:Int):Ha:={ h with nxt:=t,pos:=16 }
def j6 (c:Ch) (h:Ha) (to wt:Int) (thn:Ha):St :=
 if bQ c h.cell h.seen to wt then done (bK c h.cell h.seen to wt) thn else done (bK c h.cell h.seen to wt) { h with pos:=10 }
def rV (h:Ha):Ha:=if h.pos == 16 then { h with nxt:=1 } else h
def gX (c:Ch) (h:Ha):St :=
 if h.seen == 2 then j6 c h 7 0 (eQ h 0) else if h.seen == 3 then j6 c h 5 h.wait { h with pos:=13 }
 else if h.seen != 0 && h.seen != 1 then nothing else if h.cell<h.come then j6 c h 8 0 (eQ h 2)
 else done (fP c h 4 16 10).1 (rV (fP c h 4 16 10).2)
def um (c:Ch) (h:Ha):St:=if c.got == 40 then done c (aV 4 0) else done { c with got:=c.got+1 } { h with cell:=c.got,pos:=10 }
def uw (c:Ch) (h:Ha):St:=if (cellAt c h.cell).s == 6 then (c,h,false) else if (iY c h).2 then done c (iY c h).1 else nothing
def vJ (c:Ch) (h:Ha):St:=done (dM c h.wait 1) { h with pos:=if eY c h.wait 1 then 14 else 15 }
def bL (c:Ch) (h:Ha):St :=
 if bJ c h 9 15 2 then
  if h.pos == 9 then um c h else if h.pos == 10 then uw c h else if h.pos == 11 then done c { h with come:=c.sent,pos:=12 }
  else if h.pos == 12 then gX c h else if h.pos == 13 then vJ c h
  else if h.pos == 14 then done (cB c h.cell 7) (eQ h 0) else done (cB c h.cell 9) (anew h)
 else nothing
def dP (h:Ha):Ha:=if h.nxt == 0 then aV 2 h.out else if h.nxt == 1 then { h with pos:=23 } else anew h
def mh (c:Ch) (h:Ha):Ha :=
 let x:=cellAt c h.grow
 let y:=cZ h x
 if x.s == 0 then { y with pos:=19 } else if x.s == 3 then { y with pos:=19 } else if x.s == 9 then { y with pos:=16 } else dP y
def lH (c:Ch) (h:Ha) (to wt:Int) (thn:Ha):St :=
 if bQ c h.grow h.seen to wt then done (bK c h.grow h.seen to wt) thn else done (bK c h.grow h.seen to wt) { h with pos:=18 }
def iH (c:Ch) (h:Ha):St:=if h.seen == 3 then lH c h 6 h.wait { h with pos:=20 } else if h.seen == 0 then lH c h 1 0 (dP h) else nothing
def iJ (c:Ch) (h:Ha):Ch × Ha:=if c.cap == 0 || c.fin == 40 then (c,dP h) else ({ c with fin:=c.fin+1 },{ h with grow:=c.fin,pos:=17 })
def l7 (c:Ch) (h:Ha):St:=if (cellAt c h.grow).s == 5 then (c,h,false) else done c (mh c h)
def ru (c:Ch) (h:Ha):St:=done (dM c h.wait 1) { h with pos:=if eY c h.wait 1 then 21 else 22 }
def bP (c:Ch) (h:Ha):St :=
 if bJ c h 16 22 2 then
  if h.pos == 16 then done (iJ c h).1 (iJ c h).2 else if h.pos == 17 then (if c.sent≤h.grow then done c (dP h) else done c { h with pos:=18 })
  else if h.pos == 18 then l7 c h else if h.pos == 19 then iH c h else if h.pos == 20 then ru c h
  else if h.pos == 21 then done (cB c h.grow 2) (dP h) else done (cB c h.grow 9) { h with pos:=16 }
 else nothing
def jR (c:Ch) (h:Ha):St :=
 if fJ c h.mine == 0 then (c,h,false) else if fJ c h.mine == 2 then done c { h with pos:=25 }
 else if h.code == 1 then done c (aV 1 0) else done c { h with pos:=24 }
def pg (h:Ha):Int:=if h.code == 1 then 9 else 10
def bV (c:Ch) (h:Ha):St :=
 if bJ c h 23 25 0 && (kF c h.mine && !(h.pos == 24 && h.code == 1)) then
  if h.pos == 23 then jR c h else if h.pos == 24 then done c (aV 2 (cellAt c h.cell).e) else done (cB c h.cell (pg h)) (aV 3 0)
 else nothing
def fZ (c:Ch) (h:Ha):St :=
 if dA h.pos 1 8 then bI c h else if dA h.pos 9 15 then bL c h else if dA h.pos 16 22 then bP c h else bV c h
end
section
structure De where
 task:Int
 code:Int
 elem:Int
 beg:Int
 fin:Int
 reply:Int
 out:Int
structure Wo where
 ch:Ch
 hands:List Ha
 deals:List De
 now:Int
def Wo.zero:Wo:=⟨Ch.zero,[],[],0⟩
def De.zero:De:=⟨0,0,0,0,0,0,0⟩
def eH (n:Nat) (who:Int):Bool:=dA who 0 ((n:Int) - 1)
def jw (n:Nat) (now:Int) (d:De):Bool:=eH n d.task && (kM d.code d.elem d.reply && (dA d.beg 0 now && (dA d.fin 0 now && dA d.out 0 999)))
def gH (now:Int) (h:Ha):Bool:=bM h && decide (h.beg≤now)
def ik (x:Wo):Bool:=aW x.ch && (decide (1≤x.hands.length) && (decide (x.hands.length≤6) && (decide (x.deals.length≤1000) && dA x.now 0 20000)))
def bC (x:Wo):Bool:=ik x && (x.hands.all (gH x.now) && x.deals.all (jw x.hands x.now))
def fQ (cap tasks:Int):Wo × Bool:=if dA cap 0 4 && dA tasks 1 6 then (⟨dK cap,List.replicate tasks.toNat (aV 0 0),[],0⟩,true) else (Wo.zero,false)
def aL (x:Wo) (who:Int):Ha:=x.hands.getD who.toNat Ha.zero
def gY (x:Wo) (who:Int) (h:Ha):Wo:={ x with hands:=x.hands.set who.toNat h }
def cK (x:Wo) (who:Int):Bool:=eH x.hands who
def asked (x:Wo) (who k e:Int):Wo × Int :=
 if bC x && cK x who then
  if (called (aL x who) k e).2 != 0 then (x,(called (aL x who) k e).2) else if x.now == 20000 then (x,1)
  else ({ gY x who { (called (aL x who) k e).1 with beg:=x.now+1 } with now:=x.now+1 },0)
 else (Wo.zero,3)
def stepW (x:Wo) (who:Int) (s:St):Wo × Bool :=
 if !s.2.2 || x.now == 20000 then (x,false)
 else if s.2.1.pos != 0 then ({ gY x who s.2.1 with now:=x.now+1,ch:=s.1 },true)
 else if decide (1000≤x.deals.length) || !kM (aL x who).code (aL x who).elem s.2.1.reply then (x,false)
 else ({ gY x who s.2.1 with now:=x.now+1,ch:=s.1,deals:=x.deals ++ [⟨who,(aL x who).code,(aL x who).elem,(aL x who).beg,x.now+1,s.2.1.reply,s.2.1.out⟩] },true)
def eT (x:Wo) (who:Int):Wo × Bool:=stepW x who (fZ x.ch (aL x who))
def fV:Nat→Wo→Int→Wo × Nat
 | 0,x,_=>(x,0)
 | n+1,x,who=>if (aL x who).pos == 0 then (x,0) else if (eT x who).2 then ((fV n (eT x who).1 who).1,(fV n (eT x who).1 who).2+1) else (x,0)
def alone (x:Wo) (who most:Int):Wo × Int :=
 if bC x && cK x who then (if dA most 0 20000 then ((fV most.toNat x who).1,(fV most.toNat x who).2) else (x,-1)) else (Wo.zero,-1)
def stopped (x:Wo) (who:Int):Wo × Bool :=
 if bC x && cK x who then
  (if (aL x who).pos != 23 then (x,false) else ({ x with ch:=dM x.ch (aL x who).mine 2 },eY x.ch (aL x who).mine 2))
 else (Wo.zero,false)
end
section
theorem kA {m a b:Prop} (f:a→b) (h:m∧a):m∧b:=⟨h.1,f h.2⟩
theorem kB {m q a b:Prop} (f:a→b) (h:m∧q∧a):m∧q∧b:=⟨h.1,h.2.1,f h.2.2⟩
theorem kC {m q r u a b:Prop} (f:a→b) (h:m∧q∧r∧u∧a):m∧q∧r∧u∧b:=⟨h.1,h.2.1,h.2.2.1,h.2.2.2.1,f h.2.2.2.2⟩
theorem kD {m q r u y z A D a b:Prop} (f:a→b) (h:m∧q∧r∧u∧y∧z∧A∧D∧a):m∧q∧r∧u∧y∧z∧A∧D∧b:=⟨h.1,h.2.1,h.2.2.1,h.2.2.2.1,h.2.2.2.2.1,h.2.2.2.2.2.1,h.2.2.2.2.2.2.1,h.2.2.2.2.2.2.2.1,f h.2.2.2.2.2.2.2.2⟩
theorem kE {A D E F G H I J K L m q r u y z a b:Prop} (f:a→b) (h:A∧D∧E∧F∧G∧H∧I∧J∧K∧L∧m∧q∧r∧u∧y∧z∧a):A∧D∧E∧F∧G∧H∧I∧J∧K∧L∧m∧q∧r∧u∧y∧z∧b:=⟨h.1,h.2.1,h.2.2.1,h.2.2.2.1,h.2.2.2.2.1,h.2.2.2.2.2.1,h.2.2.2.2.2.2.1,h.2.2.2.2.2.2.2.1,h.2.2.2.2.2.2.2.2.1,h.2.2.2.2.2.2.2.2.2.1,h.2.2.2.2.2.2.2.2.2.2.1,h.2.2.2.2.2.2.2.2.2.2.2.1,h.2.2.2.2.2.2.2.2.2.2.2.2.1,h.2.2.2.2.2.2.2.2.2.2.2.2.2.1,h.2.2.2.2.2.2.2.2.2.2.2.2.2.2.1,h.2.2.2.2.2.2.2.2.2.2.2.2.2.2.2.1,f h.2.2.2.2.2.2.2.2.2.2.2.2.2.2.2.2⟩
theorem jC {m q r u a:Prop} (h:m∧q∧r∧u∧a):a:=h.2.2.2.2
theorem jD {m q r u y z A D a:Prop} (h:m∧q∧r∧u∧y∧z∧A∧D∧a):a:=h.2.2.2.2.2.2.2.2
theorem jE {A D E F G H I J K L m q r u y z a:Prop} (h:A∧D∧E∧F∧G∧H∧I∧J∧K∧L∧m∧q∧r∧u∧y∧z∧a):a:=h.2.2.2.2.2.2.2.2.2.2.2.2.2.2.2.2
theorem kX {a b c d:Prop} (x:c) (f:a→b) (h:d∧a):c∧b:=⟨x,f h.2⟩
theorem nB {P:Prop} (h:false=true):P:=by cases h
def qB (l:List Nat):List Nat:=0 :: 1 :: 2 :: 3 :: 4 :: 5 :: 6 :: 7 :: l
def qC (l:List Nat):List Nat:=0 :: 1 :: 2 :: 3 :: 4 :: 5 :: 6 :: 7 :: 8 :: 9 :: 10 :: 11 :: 12 :: 13 :: 14 :: 15 :: l
def qD (l:List Nat):List Nat:=0 :: 1 :: 2 :: 3 :: 4 :: 5 :: 6 :: 7 :: 8 :: 9 :: 10 :: 11 :: 12 :: 13 :: 14 :: 15 :: 16 :: 17 :: 18 :: 19 :: 20 :: 21 :: 22 :: 23 :: l
def qE (l:List Nat):List Nat:=0 :: 1 :: 2 :: 3 :: 4 :: 5 :: 6 :: 7 :: 8 :: 9 :: 10 :: 11 :: 12 :: 13 :: 14 :: 15 :: 16 :: 17 :: 18 :: 19 :: 20 :: 21 :: 22 :: 23 :: 24 :: 25 :: 26 :: 27 :: 28 :: 29 :: 30 :: 31 :: l
end
end Go.Proofs.YtffhjmepfojhnaaGreat
