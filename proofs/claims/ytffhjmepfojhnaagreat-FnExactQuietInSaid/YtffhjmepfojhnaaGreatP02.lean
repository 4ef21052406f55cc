/-
  Structs that are kept, loaded and stored as one value; no condition.
-/
import Derived.Test.YtffhjmepfojhnaaGreatP01
import Derived.Laws.IdiomCopy
set_option maxRecDepth 100000
set_option maxHeartbeats 2000000
set_option linter.unusedSimpArgs false
set_option linter.unusedVariables false
namespace Go.Proofs.YtffhjmepfojhnaaGreat
section
open Go.RowKit
def aa (h:Ha):Array Value:=#[.int .i64 h.pos,.int .i64 h.code,.int .i64 h.elem,.int .i64 h.cell,.int .i64 h.seen,.int .i64 h.wait,.int .i64 h.fin,.int .i64 h.come,.int .i64 h.grow,.int .i64 h.mine,.int .i64 h.nxt,.int .i64 h.beg,.int .i64 h.reply,.int .i64 h.out]
theorem Nc (h:Ha):(aa h=#[])=False:=by simp [aa]
theorem lJ (h:Ha):(aa h).size=14:=rfl
theorem Jp (h:Ha):(aa h)[0]?=some (.int .i64 h.pos):=rfl
theorem Jq (h:Ha) (x:Int):(aa h).setIfInBounds 0 (.int .i64 x)=aa { h with pos:=x }:=rfl
theorem Jr (h:Ha):(aa h)[1]?=some (.int .i64 h.code):=rfl
theorem Js (h:Ha) (x:Int):(aa h).setIfInBounds 1 (.int .i64 x)=aa { h with code:=x }:=rfl
theorem Jt (h:Ha):(aa h)[2]?=some (.int .i64 h.elem):=rfl
theorem Ju (h:Ha) (x:Int):(aa h).setIfInBounds 2 (.int .i64 x)=aa { h with elem:=x }:=rfl
theorem Jv (h:Ha):(aa h)[3]?=some (.int .i64 h.cell):=rfl
theorem Jw (h:Ha) (x:Int):(aa h).setIfInBounds 3 (.int .i64 x)=aa { h with cell:=x }:=rfl
theorem Jy (h:Ha):(aa h)[4]?=some (.int .i64 h.seen):=rfl
theorem Jz (h:Ha) (x:Int):(aa h).setIfInBounds 4 (.int .i64 x)=aa { h with seen:=x }:=rfl
theorem J2 (h:Ha):(aa h)[5]?=some (.int .i64 h.wait):=rfl
theorem J3 (h:Ha) (x:Int):(aa h).setIfInBounds 5 (.int .i64 x)=aa { h with wait:=x }:=rfl
theorem J4 (h:Ha):(aa h)[6]?=some (.int .i64 h.fin):=rfl
theorem J5 (h:Ha) (x:Int):(aa h).setIfInBounds 6 (.int .i64 x)=aa { h with fin:=x }:=rfl
theorem J6 (h:Ha):(aa h)[7]?=some (.int .i64 h.come):=rfl
theorem J7 (h:Ha) (x:Int):(aa h).setIfInBounds 7 (.int .i64 x)=aa { h with come:=x }:=rfl
theorem J8 (h:Ha):(aa h)[8]?=some (.int .i64 h.grow):=rfl
theorem J9 (h:Ha) (x:Int):(aa h).setIfInBounds 8 (.int .i64 x)=aa { h with grow:=x }:=rfl
theorem JA (h:Ha):(aa h)[9]?=some (.int .i64 h.mine):=rfl
theorem JB (h:Ha) (x:Int):(aa h).setIfInBounds 9 (.int .i64 x)=aa { h with mine:=x }:=rfl
theorem Gt (h:Ha):(aa h)[10]?=some (.int .i64 h.nxt):=rfl
theorem Gu (h:Ha) (x:Int):(aa h).setIfInBounds 10 (.int .i64 x)=aa { h with nxt:=x }:=rfl
theorem Gv (h:Ha):(aa h)[11]?=some (.int .i64 h.beg):=rfl
theorem Gw (h:Ha) (x:Int):(aa h).setIfInBounds 11 (.int .i64 x)=aa { h with beg:=x }:=rfl
theorem Gx (h:Ha):(aa h)[12]?=some (.int .i64 h.reply):=rfl
theorem Gy (h:Ha) (x:Int):(aa h).setIfInBounds 12 (.int .i64 x)=aa { h with reply:=x }:=rfl
theorem Gz (h:Ha):(aa h)[13]?=some (.int .i64 h.out):=rfl
theorem G5 (h:Ha) (x:Int):(aa h).setIfInBounds 13 (.int .i64 x)=aa { h with out:=x }:=rfl
def af (c:Ch) (v1 v2:Value):Array Value:=#[.int .i64 c.cap,.int .i64 c.sent,.int .i64 c.got,.int .i64 c.fin,v1,v2]
theorem Nf (c:Ch) (v1 v2:Value):(af c v1 v2=#[])=False:=by simp [af]
theorem DU (c:Ch) (v1 v2:Value):(af c v1 v2).size=6:=rfl
theorem JC (c:Ch) (v1 v2:Value):(af c v1 v2)[0]?=some (.int .i64 c.cap):=rfl
theorem JD (c:Ch) (v1 v2:Value) (x:Int):(af c v1 v2).setIfInBounds 0 (.int .i64 x)=af { c with cap:=x } v1 v2:=rfl
theorem JE (c:Ch) (v1 v2:Value):(af c v1 v2)[1]?=some (.int .i64 c.sent):=rfl
theorem JF (c:Ch) (v1 v2:Value) (x:Int):(af c v1 v2).setIfInBounds 1 (.int .i64 x)=af { c with sent:=x } v1 v2:=rfl
theorem JG (c:Ch) (v1 v2:Value):(af c v1 v2)[2]?=some (.int .i64 c.got):=rfl
theorem JH (c:Ch) (v1 v2:Value) (x:Int):(af c v1 v2).setIfInBounds 2 (.int .i64 x)=af { c with got:=x } v1 v2:=rfl
theorem JI (c:Ch) (v1 v2:Value):(af c v1 v2)[3]?=some (.int .i64 c.fin):=rfl
theorem JJ (c:Ch) (v1 v2:Value) (x:Int):(af c v1 v2).setIfInBounds 3 (.int .i64 x)=af { c with fin:=x } v1 v2:=rfl
theorem JK (c:Ch) (v1 v2:Value):(af c v1 v2)[4]?=some v1:=rfl
theorem JL (c:Ch) (v1 v2:Value):(af c v1 v2)[5]?=some v2:=rfl
theorem JM (c:Ch) (v1 v2 x:Value):(af c v1 v2).setIfInBounds 4 x=af c x v2:=rfl
theorem JN (c:Ch) (v1 v2 x:Value):(af c v1 v2).setIfInBounds 5 x=af c v1 x:=rfl
def nA (vs:Array Value):Obj→Obj
 | .cells _ t fr=>.cells vs t fr
 | o=>o
def qN (i:Nat) (v:Value):Obj→Obj
 | .cells c t fr=>.cells (c.setIfInBounds i v) t fr
 | o=>o
def bI (w:World) (b:Nat) (vs:Array Value):World:={ w with heap:=w.heap.modify b (nA vs) }
def hp (w:World) (b:Nat):Option Obj:=w.heap[b]?
def okO (n:Nat):Option Obj→Bool
 | some (.cells c _ fr)=>c.size == n && (fr.1 == 0 && fr.2 == 0)
 | _=>false
def gP:Option Obj→Array Value
 | some (.cells c _ _)=>c
 | _=>#[]
theorem tH (vs c:Array Value) (t:TypeId):nA vs (.cells c t)=.cells vs t:=rfl
theorem qO (i:Nat) (v:Value) (c:Array Value) (t:TypeId):qN i v (.cells c t)=.cells (c.setIfInBounds i v) t:=rfl
theorem Ew (n:Nat) (c:Array Value) (t:TypeId):okO n (some (.cells c t))=(c.size == n):=by simp [okO]
theorem oG (c:Array Value) (t:TypeId):gP (some (.cells c t))=c:=rfl
theorem qP {n:Nat} {o:Option Obj} (h:okO n o=true):∃ c t,o=some (.cells c t)∧c.size=n:=by
 unfold okO at h
 split at h
 ·rename_i c t fr
  obtain ⟨f1,f2⟩:=fr
  simp at h
  obtain ⟨h1,rfl,rfl⟩:=h
  exact ⟨c,t,rfl,h1⟩
 ·cases h
theorem Ox (n:Nat):n<n+1+1:=by omega
theorem Oy (n:Nat):n<n+1+1+1:=by omega
theorem Oz (n:Nat):n<n+1+1+1+1:=by omega
theorem O0 (n:Nat):n<n+1+1+1+1+1:=by omega
variable {w W:World} {b b' n i:Nat} {vs us:Array Value} {v:Value}
theorem aI:(bI w b vs).heap.size=w.heap.size:=by simp [bI]
theorem qQ:hp (bI w b vs) b=(hp w b).map (nA vs):=by simp [hp,bI,Array.getElem?_modify]
theorem aL (h:b'≠b):(bI w b vs).heap[b']?=w.heap[b']?:=by simp [bI,Array.getElem?_modify,Ne.symm h]
theorem Bd (h:b'<b):hp (bI w b vs) b'=hp w b':=aL tO
theorem Be (h:b<b'):hp (bI w b vs) b'=hp w b':=aL tO
theorem Bf (h:okO vs.size (hp w b)=true):(bI w b vs).cell? ⟨b,i,none⟩=vs[i]?:=by
 obtain ⟨c,t,e,_⟩:=qP h
 unfold hp at e
 simp [World.cell?,bI,Array.getElem?_modify,e,nA]
theorem qR (h:b'≠b):(bI w b vs).cell? ⟨b',i,none⟩=w.cell? ⟨b',i,none⟩:=World.cell?_of_block (aL h)
theorem Bg (h:b'<b):(bI w b vs).cell? ⟨b',i,none⟩=w.cell? ⟨b',i,none⟩:=qR tO
theorem Bh (h:b<b'):(bI w b vs).cell? ⟨b',i,none⟩=w.cell? ⟨b',i,none⟩:=qR tO
theorem Ex:(bI w b vs).frozen? ⟨b',i,none⟩=w.frozen? ⟨b',i,none⟩:=by
 simp only [World.frozen?,bI,Array.getElem?_modify]
 by_cases e:b=b'
 ·subst e
  simp only [if_true]
  cases w.heap[b]? with
  | none=>rfl
  | some o=>cases o <;> rfl
 ·simp [e]
theorem yl {c:Array Value} {t:TypeId} (hn:n=w.heap.size):bI (w.alloc (.cells c t)) n vs=w.alloc (.cells vs t):=by
 subst hn
 unfold bI World.alloc
 congr 1
 apply Array.ext_getElem?
 intro k
 simp only [Array.getElem?_modify,Array.getElem?_push]
 by_cases hk:k=w.heap.size
 ·subst hk;simp [nA]
 ·simp [hk,Ne.symm hk]
theorem tJ {o:Obj} (hn:n<w.heap.size):bI (w.alloc o) n vs=(bI w n vs).alloc o:=by
 unfold bI World.alloc
 congr 1
 apply Array.ext_getElem?
 intro k
 simp only [Array.getElem?_modify,Array.getElem?_push,Array.size_modify]
 by_cases hk:k=w.heap.size
 ·subst hk;simp [Nat.ne_of_lt hn]
 ·simp [hk]
theorem G6:bI (bI w b vs) b us=bI w b us:=by
 unfold bI
 congr 1
 apply Array.ext_getElem?
 intro k
 simp only [Array.getElem?_modify]
 by_cases e:b=k
 ·subst e
  simp only [if_true]
  cases w.heap[b]? with
  | none=>rfl
  | some o=>cases o <;> rfl
 ·simp [e]
theorem Bi:(bI w b vs).setCell ⟨b,i,none⟩ v=bI w b (vs.setIfInBounds i v):=by
 unfold bI World.setCell
 congr 1
 apply Array.ext_getElem?
 intro k
 simp only [Array.getElem?_modify]
 by_cases e:b=k
 ·subst e
  simp only [if_true]
  cases w.heap[b]? with
  | none=>rfl
  | some o=>cases o <;> rfl
 ·simp [e]
theorem JO:bI w.drew b vs=(bI w b vs).drew:=rfl
theorem JP:hp w.drew b=hp w b:=rfl
theorem ym {o:Obj} (hn:n=w.heap.size):hp (w.alloc o) n=some o:=by subst hn;exact heap_alloc_new w o
theorem tK {o:Obj} (hn:n<w.heap.size):hp (w.alloc o) n=hp w n:=Below.heap_alloc w o n hn
theorem pg:hp (w.setCell ⟨b,i,none⟩ v) b=(hp w b).map (qN i v):=by
 simp only [hp,World.setCell,Array.getElem?_modify]
 cases w.heap[b]? with
 | none=>simp
 | some o=>cases o <;> simp [qN]
theorem Ey (h:b'<b):hp (w.setCell ⟨b,i,none⟩ v) b'=hp w b':=Below.heap_setCell w _ v b' (by simp;omega)
theorem Ez (h:b<b'):hp (w.setCell ⟨b,i,none⟩ v) b'=hp w b':=Below.heap_setCell w _ v b' (by simp;omega)
theorem dN {r:Option Nat} (h:w.grownBy W r) (hb:b<w.heap.size) (hn:some b≠r):hp W b=hp w b:=h.block b hb hn
theorem qU {r r':Option Nat} (h:gV r r' w W) (hb:i<w.heap.size) (h1:some i≠r) (h2:some i≠r'):hp W i=hp w i:=h.2.2.2.2 i hb h1 h2
theorem bO {w:World} {b:Nat} {cs:Array Value} {t:TypeId} (h:hp w b=some (.cells cs t)):(∀ o,w.cell? ⟨b,o,none⟩=cs[o]?)∧(∀ o,w.frozen? ⟨b,o,none⟩=false)∧b<w.heap.size :=
 ⟨fun o=>cell_of_row w b o cs t _ h,fun o=>by have h2:w.heap[b]?=some (.cells cs t):=h;simp [World.frozen?,h2],(Array.getElem?_eq_some_iff.1 h).1⟩
theorem mG (h:Below n w W) (hb:b<n):hp W b=hp w b:=h.block b hb
theorem hQ {n:Nat} {w W:World} (h:Below n w W) {b:Nat} (hb:b<n:=by ((try simp) <;> omega)):hp W b=hp w b:=mG h hb
theorem q4 {n:Nat} {w W:World} (h:Below n w W) {b:Nat} (hb:b+1+1+1<n:=by ((try simp) <;> omega)):hp W (b+1+1+1)=hp w (b+1+1+1)∧hp W (b+1+1)=hp w (b+1+1)∧hp W (b+1)=hp w (b+1)∧hp W b=hp w b:=⟨mG h tO,mG h tO,mG h tO,mG h tO⟩
theorem ME {lo:Nat} (h:Below lo w W) (hb:lo≤b):Below lo w (bI W b vs) :=
 ⟨h.os,h.tape,h.output,by rw [aI];exact h.size,fun k hk=>(aL tO).trans (h.block k hk)⟩
theorem O3 {g:Nat} (h:Gr g w W) (hb:b=g∨w.heap.size≤b):Gr g w (bI W b vs) :=
 ⟨h.os,h.tape,h.output,by rw [aI];exact h.size,fun k hk hn=>(aL (by rcases hb with hb|hb;exact fun e=>hn (by rw [e,hb]);omega)).trans (h.block k hk hn)⟩
theorem fI {lo:Nat} {e:TypeId} {k m:Nat} {x:Value} {xs:List Value} (h:w.ownsRow lo e k x m xs) (hp:x.ownBlock≠some b):(bI w b vs).ownsRow lo e k x m xs :=
 h.kept (row:=some b) ⟨rfl,rfl,rfl,by rw [aI];exact Nat.le_refl _,fun i _ hn=>aL (fun e=>hn (by rw [e]))⟩ (.inr hp)
theorem O4 {r:Option Nat} {o:Obj} (h:w.grownBy W r):w.grownBy (W.alloc o) r:=⟨h.os,h.tape,h.output,Nat.le_trans h.size (by simp),fun k hk hn=>(Below.heap_alloc W o k (Nat.lt_of_lt_of_le hk h.size)).trans (h.block k hk hn)⟩
theorem O5 {r:Option Nat} (h:w.grownBy W r):w.grownBy W.drew r:=⟨h.os,h.tape,h.output,h.size,h.block⟩
theorem O6 {r:Option Nat} {p:Addr} {u:Value} (h:w.grownBy W r) (hp:w.heap.size≤p.block):w.grownBy (W.setCell p u) r :=
 ⟨h.os,h.tape,h.output,by simpa [World.setCell] using h.size,fun k hk hn=>(Below.heap_setCell W p u k tO).trans (h.block k hk hn)⟩
theorem O7 {r:Option Nat} (h:w.grownBy W r) (hb:w.heap.size≤b):w.grownBy (bI W b vs) r :=
 ⟨h.os,h.tape,h.output,by rw [aI];exact h.size,fun k hk hn=>(aL tO).trans (h.block k hk hn)⟩
theorem oA {r r':Option Nat} {o:Obj} (h:gV r r' w W):gV r r' w (W.alloc o) :=
 ⟨h.1,h.2.1,h.2.2.1,Nat.le_trans h.2.2.2.1 (by simp),fun k hk h1 h2=>(Below.heap_alloc W o k (Nat.lt_of_lt_of_le hk h.2.2.2.1)).trans (h.2.2.2.2 k hk h1 h2)⟩
theorem oD {r r':Option Nat} (h:gV r r' w W):gV r r' w W.drew:=h
theorem oS {r r':Option Nat} {p:Addr} {u:Value} (h:gV r r' w W) (hp:w.heap.size≤p.block):gV r r' w (W.setCell p u) :=
 ⟨h.1,h.2.1,h.2.2.1,by simpa [World.setCell] using h.2.2.2.1,fun k hk h1 h2=>(Below.heap_setCell W p u k tO).trans (h.2.2.2.2 k hk h1 h2)⟩
theorem oX {r r':Option Nat} (h:gV r r' w W) (hb:w.heap.size≤b):gV r r' w (bI W b vs) :=
 ⟨h.1,h.2.1,h.2.2.1,by rw [aI];exact h.2.2.2.1,fun k hk h1 h2=>(aL tO).trans (h.2.2.2.2 k hk h1 h2)⟩
variable {P:Program} {T:TypeId}
theorem lg (hA:∀ w,(isAgg T).run P w=.ok true w) (hS:∀ w,(sizeOf T).run P w=.ok n w) (h:okO n (hp w b)=true) :
  (loadVar T ⟨b,0,none⟩).run P w=.ok (.agg (gP (hp w b))) w:=by
 unfold hp at *
 obtain ⟨c,t,e,hc⟩:=qP h
 have h1:(loadCells ⟨b,0,none⟩ c.toList.length).run P w=.ok c.toList.toArray w:=run_loadCells_list w ⟨b,0,none⟩ c.toList (fun j v hj=>by
  have e2:(⟨b,0,none⟩:Addr).add j=⟨b,j,none⟩:=by by_cases h0:j=0 <;> simp [Addr.add,h0]
  rw [e2]
  simp only [World.cell?,e]
  simpa using hj)
 simp only [Array.length_toList,hc] at h1
 rw [e,oG]
 simp only [loadVar,Sem.run_bind,hA,hS,Result.andThen_ok,if_true,h1,Sem.run_pure]
theorem nI (b:Nat):∀ (l:List Value) (o:Nat) (w:World),w.setCells b o l={ w with heap:=w.heap.modify b (fun x=>match x with|.cells c t fr=>.cells ((l.zipIdx o).foldl (fun c p=>c.setIfInBounds p.2 p.1) c) t fr|x=>x) }
 | [],o,w=>by
  unfold World.setCells
  have e:w.heap.modify b (fun x=>match x with|.cells c t fr=>.cells ((([]:List Value).zipIdx o).foldl (fun c p=>c.setIfInBounds p.2 p.1) c) t fr|x=>x)=w.heap:=by
   apply Array.ext_getElem?
   intro k
   simp only [Array.getElem?_modify]
   by_cases e:b=k
   ·subst e
    simp only [if_true]
    cases w.heap[b]? with
    | none=>rfl
    | some x=>cases x <;> rfl
   ·simp [e]
  rw [e]
 | v :: l,o,w=>by
  unfold World.setCells
  rw [nI b l (o+1)]
  simp only [World.setCell]
  congr 1
  apply Array.ext_getElem?
  intro k
  simp only [Array.getElem?_modify]
  by_cases e:b=k
  ·subst e
   simp only [if_true]
   cases w.heap[b]? with
   | none=>rfl
   | some x=>cases x <;> simp [List.zipIdx_cons]
  ·simp [e]
theorem yn:∀ (l:List Value) (o:Nat) (c:Array Value) (k:Nat),o+l.length≤c.size→((l.zipIdx o).foldl (fun c p=>c.setIfInBounds p.2 p.1) c)[k]?=if o≤k∧k<o+l.length then l[k - o]? else c[k]?
 | [],o,c,k,_=>by
  have:¬ (o≤k∧k<o+([]:List Value).length):=by simp
  rw [if_neg this];rfl
 | v :: l,o,c,k,h=>by
  simp only [List.zipIdx_cons,List.foldl_cons,List.length_cons] at *
  rw [yn l (o+1) _ k (by rw [Array.size_setIfInBounds];omega)]
  by_cases e:k=o
  ·subst e
   rw [if_neg tO,if_pos tO,Array.getElem?_setIfInBounds,if_pos rfl,if_pos tO];simp
  ·by_cases e2:o+1≤k∧k<o+1+l.length
   ·rw [if_pos e2,if_pos tO]
    obtain ⟨m,rfl⟩:∃ m,k=o+1+m:=⟨k - (o+1),by omega⟩
    rw [show o+1+m - (o+1)=m by omega,show o+1+m - o=m+1 by omega];rfl
   ·rw [if_neg e2,if_neg tO,Array.getElem?_setIfInBounds,if_neg (fun h=>e h.symm)]
theorem G7 (vs c:Array Value) (h:c.size=vs.size):((vs.toList.zipIdx 0).foldl (fun c p=>c.setIfInBounds p.2 p.1) c)=vs:=by
 apply Array.ext_getElem?
 intro k
 rw [yn _ _ _ _ (by simp;omega)]
 by_cases e:k<vs.size
 ·rw [if_pos (by simp;omega)];simp
 ·rw [if_neg (by simp;omega),Array.getElem?_eq_none tO,Array.getElem?_eq_none tO]
theorem kL (h:okO n (hp w b)=true) (hv:vs.size=n) (h1:∀ v ∈ vs.toList,v.oneCell'=true) :
  (storeCells ⟨b,0,none⟩ vs.toList).run P w=.ok () (bI w b vs):=by
 unfold hp at h
 obtain ⟨c,t,e,hc⟩:=qP h
 have h2:=run_storeCells_cells (P:=P) b 0 vs.toList 0 w (fun j hj=>by
   have:j<c.size:=by rw [hc,← hv];simpa using hj
   simp [World.cell?,e,this]) (fun j hj=>by simp [World.frozen?,e]) h1
 have h3:w.setCells b (0+0) vs.toList=bI w b vs:=by
  rw [nI]
  unfold bI
  congr 1
  apply Array.ext_getElem?
  intro k
  simp only [Array.getElem?_modify]
  by_cases ek:b=k
  ·subst ek
   simp only [if_true,e,Option.map_some,nA]
   rw [G7 vs c tO]
  ·simp [ek]
 rw [h3] at h2
 exact h2
theorem pq (hS:∀ w,(sizeOf T).run P w=.ok n w) (h:okO n (hp w b)=true) (hv:vs.size=n) (h1:∀ v ∈ vs.toList,v.oneCell'=true) :
  (storeVar T ⟨b,0,none⟩ (.agg vs)).run P w=.ok () (bI w b vs):=by
 have h2:=kL (P:=P) h hv h1
 simp only [storeVar,Sem.run_bind,hS,Result.andThen_ok,Value.cells,hv,ne_eq,not_true_eq_false,if_false]
 simpa using h2
variable {fn:Func} {p q u:Tmp} {S:TypeId} {tmps:Array Value} {a a':Addr} {x y:Value}
theorem gH (h:fn.results=#[.cell p T]) (hp:tmps.getD p undef=.pointer (some a)) (hl:(loadVar T a).run P w=.ok x w):(results fn tmps).run P w=.ok x w:=by
 simp only [results,h]
 simp [Sem.run_bind,Result.andThen,asAddr] at *
 simp [hp,hl]
theorem iF (h:fn.results=#[.cell p T,.tmp u]) (hp:tmps.getD p undef=.pointer (some a)) (hl:(loadVar T a).run P w=.ok x w):(results fn tmps).run P w=.ok (.tuple #[x,tmps.getD u undef]) w:=by
 simp only [results,h]
 simp [Sem.run_bind,Result.andThen,asAddr] at *
 simp [hp,hl]
theorem nW (h:fn.results=#[.cell p T,.cell q S]) (hp:tmps.getD p undef=.pointer (some a)) (hl:(loadVar T a).run P w=.ok x w) (hp':tmps.getD q undef=.pointer (some a')) (hl':(loadVar S a').run P w=.ok y w):(results fn tmps).run P w=.ok (.tuple #[x,y]) w:=by
 simp only [results,h]
 simp [Sem.run_bind,Result.andThen,asAddr] at *
 simp [hp,hl,hp',hl']
theorem lK (h:fn.results=#[.cell p T,.cell q S,.tmp u]) (hp:tmps.getD p undef=.pointer (some a)) (hl:(loadVar T a).run P w=.ok x w) (hp':tmps.getD q undef=.pointer (some a')) (hl':(loadVar S a').run P w=.ok y w):(results fn tmps).run P w=.ok (.tuple #[x,y,tmps.getD u undef]) w:=by
 simp only [results,h]
 simp [Sem.run_bind,Result.andThen,asAddr] at *
 simp [hp,hl,hp',hl']
theorem O8 {n:Nat} {w W:World} (h:Below n w W) {b:Nat} (hb:b+1<n:=by ((try simp) <;> omega)):hp W (b+1)=hp w (b+1)∧hp W (b)=hp w (b):=⟨mG h tO,mG h tO⟩
theorem PO {n:Nat} {w W:World} (h:Below n w W) {b:Nat} (hb:b+1+1+1+1<n:=by ((try simp) <;> omega)):hp W (b+1+1+1+1)=hp w (b+1+1+1+1)∧hp W (b+1+1+1)=hp w (b+1+1+1)∧hp W (b+1+1)=hp w (b+1+1)∧hp W (b+1)=hp w (b+1)∧hp W (b)=hp w (b):=⟨mG h tO,mG h tO,mG h tO,mG h tO,mG h tO⟩
theorem MF {r:Option Nat} {w W:World} (h:w.grownBy W r) {b:Nat} (hb:b+1+1+1<w.heap.size:=by ((try simp) <;> omega)) (h3:some (b+1+1+1)≠r:=by assumption) (h2:some (b+1+1)≠r:=by assumption) (h1:some (b+1)≠r:=by assumption) (h0:some (b)≠r:=by assumption):hp W (b+1+1+1)=hp w (b+1+1+1)∧hp W (b+1+1)=hp w (b+1+1)∧hp W (b+1)=hp w (b+1)∧hp W (b)=hp w (b):=⟨dN h tO h3,dN h tO h2,dN h tO h1,dN h tO h0⟩
theorem Px {r:Option Nat} {w W:World} (h:w.grownBy W r) {b:Nat} (hb:b+1+1+1+1<w.heap.size:=by ((try simp) <;> omega)) (h4:some (b+1+1+1+1)≠r:=by assumption) (h3:some (b+1+1+1)≠r:=by assumption) (h2:some (b+1+1)≠r:=by assumption) (h1:some (b+1)≠r:=by assumption) (h0:some (b)≠r:=by assumption):hp W (b+1+1+1+1)=hp w (b+1+1+1+1)∧hp W (b+1+1+1)=hp w (b+1+1+1)∧hp W (b+1+1)=hp w (b+1+1)∧hp W (b+1)=hp w (b+1)∧hp W (b)=hp w (b):=⟨dN h tO h4,dN h tO h3,dN h tO h2,dN h tO h1,dN h tO h0⟩
theorem DV {w W:World} (h:Below w.heap.size w W) {b:Nat} (hb:b<w.heap.size:=by ((try simp) <;> omega)):(∀ o,W.cell? ⟨b,o,none⟩=w.cell? ⟨b,o,none⟩)∧(∀ o,W.frozen? ⟨b,o,none⟩=w.frozen? ⟨b,o,none⟩)∧b<W.heap.size:=⟨fun o=>h.cell (p:=⟨b,o,none⟩) hb,fun o=>h.frozen (p:=⟨b,o,none⟩) hb,Nat.lt_of_lt_of_le hb h.size⟩
theorem zG {g:Nat} {w W:World} (h:Gr g w W:=by (repeat (first|with_reducible assumption|with_reducible exact gR _ _|with_reducible refine gA ?_|with_reducible refine gD ?_|with_reducible refine gS ?_ (.inl rfl)|((with_reducible refine O3 ?_ (.inr ?_));rotate_left;(focus ((try dsimp only);(try simp);(try omega))))|((with_reducible refine gS ?_ (.inr ?_));rotate_left;(focus ((try dsimp only);(try simp);(try omega))))))):Gr g w W:=h
theorem zN {r r':Option Nat} {w W:World} (h:gV r r' w W:=by (repeat (first|with_reducible assumption|with_reducible refine oA ?_|with_reducible refine oD ?_|((with_reducible refine oX ?_ ?_);rotate_left;(focus ((try dsimp only);(try simp);(try omega))))|((with_reducible refine oS ?_ ?_);rotate_left;(focus ((try dsimp only);(try simp);(try omega))))))):gV r r' w W:=h
theorem MH {w:World} {b0:Nat} {c0:Array Value} {t0:TypeId} (h:hp w b0=some (.cells c0 t0)):(hp w b0=some (.cells c0 t0)∧(∀ o,w.cell? ⟨b0,o,none⟩=c0[o]?)∧(∀ o,w.frozen? ⟨b0,o,none⟩=false)∧b0<w.heap.size):=⟨h,bO h⟩
theorem xU {w:World} {b0 b1:Nat} {c0 c1:Array Value} {t0 t1:TypeId} (h:hp w b0=some (.cells c0 t0)∧hp w b1=some (.cells c1 t1)):(hp w b0=some (.cells c0 t0)∧(∀ o,w.cell? ⟨b0,o,none⟩=c0[o]?)∧(∀ o,w.frozen? ⟨b0,o,none⟩=false)∧b0<w.heap.size)∧(hp w b1=some (.cells c1 t1)∧(∀ o,w.cell? ⟨b1,o,none⟩=c1[o]?)∧(∀ o,w.frozen? ⟨b1,o,none⟩=false)∧b1<w.heap.size):=⟨⟨h.1,bO h.1⟩,h.2,bO h.2⟩
theorem DW {w:World} {b0 b1 b2:Nat} {c0 c1 c2:Array Value} {t0 t1 t2:TypeId} (h:hp w b0=some (.cells c0 t0)∧hp w b1=some (.cells c1 t1)∧hp w b2=some (.cells c2 t2)):(hp w b0=some (.cells c0 t0)∧(∀ o,w.cell? ⟨b0,o,none⟩=c0[o]?)∧(∀ o,w.frozen? ⟨b0,o,none⟩=false)∧b0<w.heap.size)∧(hp w b1=some (.cells c1 t1)∧(∀ o,w.cell? ⟨b1,o,none⟩=c1[o]?)∧(∀ o,w.frozen? ⟨b1,o,none⟩=false)∧b1<w.heap.size)∧(hp w b2=some (.cells c2 t2)∧(∀ o,w.cell? ⟨b2,o,none⟩=c2[o]?)∧(∀ o,w.frozen? ⟨b2,o,none⟩=false)∧b2<w.heap.size):=⟨⟨h.1,bO h.1⟩,⟨h.2.1,bO h.2.1⟩,h.2.2,bO h.2.2⟩
theorem dx {w:World} {b0 b1 b2 b3:Nat} {c0 c1 c2 c3:Array Value} {t0 t1 t2 t3:TypeId} (h:hp w b0=some (.cells c0 t0)∧hp w b1=some (.cells c1 t1)∧hp w b2=some (.cells c2 t2)∧hp w b3=some (.cells c3 t3)):(hp w b0=some (.cells c0 t0)∧(∀ o,w.cell? ⟨b0,o,none⟩=c0[o]?)∧(∀ o,w.frozen? ⟨b0,o,none⟩=false)∧b0<w.heap.size)∧(hp w b1=some (.cells c1 t1)∧(∀ o,w.cell? ⟨b1,o,none⟩=c1[o]?)∧(∀ o,w.frozen? ⟨b1,o,none⟩=false)∧b1<w.heap.size)∧(hp w b2=some (.cells c2 t2)∧(∀ o,w.cell? ⟨b2,o,none⟩=c2[o]?)∧(∀ o,w.frozen? ⟨b2,o,none⟩=false)∧b2<w.heap.size)∧(hp w b3=some (.cells c3 t3)∧(∀ o,w.cell? ⟨b3,o,none⟩=c3[o]?)∧(∀ o,w.frozen? ⟨b3,o,none⟩=false)∧b3<w.heap.size):=⟨⟨h.1,bO h.1⟩,⟨h.2.1,bO h.2.1⟩,⟨h.2.2.1,bO h.2.2.1⟩,h.2.2.2,bO h.2.2.2⟩
theorem jb {w:World} {b0 b1 b2 b3 b4:Nat} {c0 c1 c2 c3 c4:Array Value} {t0 t1 t2 t3 t4:TypeId} (h:hp w b0=some (.cells c0 t0)∧hp w b1=some (.cells c1 t1)∧hp w b2=some (.cells c2 t2)∧hp w b3=some (.cells c3 t3)∧hp w b4=some (.cells c4 t4)):(hp w b0=some (.cells c0 t0)∧(∀ o,w.cell? ⟨b0,o,none⟩=c0[o]?)∧(∀ o,w.frozen? ⟨b0,o,none⟩=false)∧b0<w.heap.size)∧(hp w b1=some (.cells c1 t1)∧(∀ o,w.cell? ⟨b1,o,none⟩=c1[o]?)∧(∀ o,w.frozen? ⟨b1,o,none⟩=false)∧b1<w.heap.size)∧(hp w b2=some (.cells c2 t2)∧(∀ o,w.cell? ⟨b2,o,none⟩=c2[o]?)∧(∀ o,w.frozen? ⟨b2,o,none⟩=false)∧b2<w.heap.size)∧(hp w b3=some (.cells c3 t3)∧(∀ o,w.cell? ⟨b3,o,none⟩=c3[o]?)∧(∀ o,w.frozen? ⟨b3,o,none⟩=false)∧b3<w.heap.size)∧(hp w b4=some (.cells c4 t4)∧(∀ o,w.cell? ⟨b4,o,none⟩=c4[o]?)∧(∀ o,w.frozen? ⟨b4,o,none⟩=false)∧b4<w.heap.size):=⟨⟨h.1,bO h.1⟩,⟨h.2.1,bO h.2.1⟩,⟨h.2.2.1,bO h.2.2.1⟩,⟨h.2.2.2.1,bO h.2.2.2.1⟩,h.2.2.2.2,bO h.2.2.2.2⟩
theorem PQ {w:World} {b0 b1 b2 b3 b4 b5:Nat} {c0 c1 c2 c3 c4 c5:Array Value} {t0 t1 t2 t3 t4 t5:TypeId} (h:hp w b0=some (.cells c0 t0)∧hp w b1=some (.cells c1 t1)∧hp w b2=some (.cells c2 t2)∧hp w b3=some (.cells c3 t3)∧hp w b4=some (.cells c4 t4)∧hp w b5=some (.cells c5 t5)):(hp w b0=some (.cells c0 t0)∧(∀ o,w.cell? ⟨b0,o,none⟩=c0[o]?)∧(∀ o,w.frozen? ⟨b0,o,none⟩=false)∧b0<w.heap.size)∧(hp w b1=some (.cells c1 t1)∧(∀ o,w.cell? ⟨b1,o,none⟩=c1[o]?)∧(∀ o,w.frozen? ⟨b1,o,none⟩=false)∧b1<w.heap.size)∧(hp w b2=some (.cells c2 t2)∧(∀ o,w.cell? ⟨b2,o,none⟩=c2[o]?)∧(∀ o,w.frozen? ⟨b2,o,none⟩=false)∧b2<w.heap.size)∧(hp w b3=some (.cells c3 t3)∧(∀ o,w.cell? ⟨b3,o,none⟩=c3[o]?)∧(∀ o,w.frozen? ⟨b3,o,none⟩=false)∧b3<w.heap.size)∧(hp w b4=some (.cells c4 t4)∧(∀ o,w.cell? ⟨b4,o,none⟩=c4[o]?)∧(∀ o,w.frozen? ⟨b4,o,none⟩=false)∧b4<w.heap.size)∧(hp w b5=some (.cells c5 t5)∧(∀ o,w.cell? ⟨b5,o,none⟩=c5[o]?)∧(∀ o,w.frozen? ⟨b5,o,none⟩=false)∧b5<w.heap.size):=⟨⟨h.1,bO h.1⟩,⟨h.2.1,bO h.2.1⟩,⟨h.2.2.1,bO h.2.2.1⟩,⟨h.2.2.2.1,bO h.2.2.2.1⟩,⟨h.2.2.2.2.1,bO h.2.2.2.2.1⟩,h.2.2.2.2.2,bO h.2.2.2.2.2⟩
theorem AZ {n:Nat} {w W:World} (h:Below n w W) {b:Nat} (hb:b+1+1+1<n:=by ((try simp) <;> omega)):hp W (b+1+1+1)=hp w (b+1+1+1)∧hp W (b+1+1)=hp w (b+1+1)∧hp W (b+1)=hp w (b+1)∧hp W b=hp w b:=q4 h hb
theorem Ng {w W w1:World} (bb:Below w.heap.size w W) (h:Below W.heap.size W w1) {b:Nat} (hb:b<W.heap.size:=by ((try simp) <;> omega)):Below w.heap.size w w1∧W.heap.size≤w1.heap.size∧hp w1 (b)=hp W (b):=⟨bT bb h,h.size,mG h tO⟩
theorem Bj {w W w1:World} (bb:Below w.heap.size w W) (h:Below W.heap.size W w1) {b:Nat} (hb:b+1<W.heap.size:=by ((try simp) <;> omega)):Below w.heap.size w w1∧W.heap.size≤w1.heap.size∧hp w1 (b+1)=hp W (b+1)∧hp w1 (b)=hp W (b):=⟨bT bb h,h.size,mG h tO,mG h tO⟩
theorem DX {w W w1:World} (bb:Below w.heap.size w W) (h:Below W.heap.size W w1) {b:Nat} (hb:b+1+1<W.heap.size:=by ((try simp) <;> omega)):Below w.heap.size w w1∧W.heap.size≤w1.heap.size∧hp w1 (b+1+1)=hp W (b+1+1)∧hp w1 (b+1)=hp W (b+1)∧hp w1 (b)=hp W (b):=⟨bT bb h,h.size,mG h tO,mG h tO,mG h tO⟩
theorem dV {w W w1:World} (bb:Below w.heap.size w W) (h:Below W.heap.size W w1) {b:Nat} (hb:b+1+1+1<W.heap.size:=by ((try simp) <;> omega)):Below w.heap.size w w1∧W.heap.size≤w1.heap.size∧hp w1 (b+1+1+1)=hp W (b+1+1+1)∧hp w1 (b+1+1)=hp W (b+1+1)∧hp w1 (b+1)=hp W (b+1)∧hp w1 (b)=hp W (b):=⟨bT bb h,h.size,mG h tO,mG h tO,mG h tO,mG h tO⟩
theorem vX {w W w1:World} (bb:Below w.heap.size w W) (h:Below W.heap.size W w1) {b:Nat} (hb:b+1+1+1+1<W.heap.size:=by ((try simp) <;> omega)):Below w.heap.size w w1∧W.heap.size≤w1.heap.size∧hp w1 (b+1+1+1+1)=hp W (b+1+1+1+1)∧hp w1 (b+1+1+1)=hp W (b+1+1+1)∧hp w1 (b+1+1)=hp W (b+1+1)∧hp w1 (b+1)=hp W (b+1)∧hp w1 (b)=hp W (b):=⟨bT bb h,h.size,mG h tO,mG h tO,mG h tO,mG h tO,mG h tO⟩
theorem aT {w W:World} {a:Option Addr} {n k:Nat} {f:Nat→Nat→Value} (h:Hid (Seg w w.heap.size a n k f)) (bb:Below w.heap.size w W):Seg W W.heap.size a n k f:=(h.out.below bb).more bb.size
theorem jc {w:World} {lo:Nat} {e:TypeId} {k n:Nat} {v:Value} {xs:List Value} (h:w.ownsRow lo e k v n xs):∀ j,v.ownBlock=some j→j<w.heap.size:=fun j hj=>(h.lt j hj).2
theorem lD {w:World} {v:Value} (b:∀ j,v.ownBlock=some j→j<w.heap.size):∀ j,w.heap.size≤j→some j≠v.ownBlock:=fun j hj e=>by have:=b _ e.symm;omega
theorem qH {w:World} {lo:Nat} {v1 v2:Value} {cs:List C3} {ws:List Int} (h1:ah w lo v1 cs) (h2:ai w lo v2 ws):∃ (a1:Option Addr) (q1:Nat) (a2:Option Addr) (q2:Nat),v1=.slice a1 cs.length q1∧v2=.slice a2 ws.length q2∧Hid (ah w lo v1 cs)∧Hid (ai w lo v2 ws)∧(∀ j,v1.ownBlock=some j→j<w.heap.size)∧(∀ j,v2.ownBlock=some j→j<w.heap.size):=by
 obtain ⟨a1,q1,e1,_⟩:=ah.seg h1
 obtain ⟨a2,q2,e2,_⟩:=ai.seg h2
 exact ⟨a1,q1,a2,q2,e1,e2,h1,h2,jc h1,jc h2⟩
theorem Jh {w:World} {lo:Nat} {v1 v2:Value} {cs:List C3} {ws:List Int} (h1:ah w lo v1 cs) (h2:ai w lo v2 ws):∃ (a1:Option Addr) (q1:Nat) (a2:Option Addr) (q2:Nat),v1=.slice a1 cs.length q1∧v2=.slice a2 ws.length q2∧ah w lo v1 cs∧ai w lo v2 ws∧(∀ j,v1.ownBlock=some j→j<w.heap.size)∧(∀ j,v2.ownBlock=some j→j<w.heap.size)∧(∀ j,w.heap.size≤j→some j≠v1.ownBlock)∧(∀ j,w.heap.size≤j→some j≠v2.ownBlock)∧some (w.heap.size)≠v1.ownBlock∧some (w.heap.size)≠v2.ownBlock∧some (w.heap.size+1)≠v1.ownBlock∧some (w.heap.size+1)≠v2.ownBlock∧some (w.heap.size+1+1)≠v1.ownBlock∧some (w.heap.size+1+1)≠v2.ownBlock∧some (w.heap.size+1+1+1)≠v1.ownBlock∧some (w.heap.size+1+1+1)≠v2.ownBlock:=by
 obtain ⟨a1,q1,e1,_⟩:=ah.seg h1
 obtain ⟨a2,q2,e2,_⟩:=ai.seg h2
 have m1:=lD (jc h1)
 have m2:=lD (jc h2)
 exact ⟨a1,q1,a2,q2,e1,e2,h1,h2,jc h1,jc h2,m1,m2,m1 _ tO,m2 _ tO,m1 _ tO,m2 _ tO,m1 _ tO,m2 _ tO,m1 _ tO,m2 _ tO⟩
theorem tZ {P:Prop} (h:P:=by simp [go_sem, *] <;> rfl):P:=h
theorem tY {P:Prop} (h:P:=by simp [go_sem, *]):P:=h
theorem iH {w:World} {lo:Nat} {e:TypeId} {k n:Nat} {v:Value} {xs:List Value} (h:w.ownsRow lo e k v n xs) (lim:Nat) (hl:lim≤lo:=by ((try simp) <;> omega)):∀ j,v.ownBlock=some j→lim≤j:=fun j hj=>Nat.le_trans hl (h.lt j hj).1
theorem Bl {r r':Option Nat} {w W:World} (h:gV r r' w W) {b:Nat} (hb:b+1+1+1<w.heap.size:=by ((try simp) <;> omega)) (h3:some (b+1+1+1)≠r:=by assumption) (g3:some (b+1+1+1)≠r':=by assumption) (h2:some (b+1+1)≠r:=by assumption) (g2:some (b+1+1)≠r':=by assumption) (h1:some (b+1)≠r:=by assumption) (g1:some (b+1)≠r':=by assumption) (h0:some (b)≠r:=by assumption) (g0:some (b)≠r':=by assumption):hp W (b+1+1+1)=hp w (b+1+1+1)∧hp W (b+1+1)=hp w (b+1+1)∧hp W (b+1)=hp w (b+1)∧hp W (b)=hp w (b):=⟨qU h tO h3 g3,qU h tO h2 g2,qU h tO h1 g1,qU h tO h0 g0⟩
theorem jW {a b:Nat} (h:a+1+1+1<b:=by omega):a<b∧a+1<b∧a+1+1<b∧a+1+1+1<b:=⟨by omega,by omega,by omega,h⟩
theorem rE {R:Ending→World→Prop} {Py:List Deferred} {w:World} (h:fn.results=#[.cell p T,.cell q S,.tmp u]) (hp:tmps.getD p undef=.pointer (some a)) (hl:(loadVar T a).run P w=.ok x w) (hp':tmps.getD q undef=.pointer (some a')) (hl':(loadVar S a').run P w=.ok y w) (hR:R (.returned (.tuple #[x,y,tmps.getD u undef])) w) (hd:Py=[]:=by rfl):bodyPost P fn R .ret { tmps:=tmps,defers:=Py } w:=bodyPost_ret (lK h hp hl hp' hl') hd hR
end
section
open Go.RowKit
theorem G8:(Tryz.prog.info? 49).map (fun i=>(i.zero,i.size,i.bytes))=some (some (.agg (aa Ha.zero)),14,112):=by kernel_rfl
theorem G9:(Tryz.prog.info? 31).map (fun i=>(i.zero,i.size,i.bytes))=some (some (.agg (af Ch.zero (.slice none 0 0) (.slice none 0 0))),6,80):=by kernel_rfl
theorem aH (w:World):(zeroValue 49).run Tryz.prog w=.ok (.agg (aa Ha.zero)) w:=by
 obtain ⟨i,hi,hz,_⟩:=info_parts G8
 have e:Tryz.prog.info? 49=some Tryz.t49:=by kernel_rfl
 obtain rfl:Tryz.t49=i:=by rw [e] at hi;exact Option.some.inj hi
 simp [zeroValue,go_sem,hz]
theorem aU (w:World):(zeroValue 31).run Tryz.prog w=.ok (.agg (af Ch.zero (.slice none 0 0) (.slice none 0 0))) w:=by
 obtain ⟨i,hi,hz,_⟩:=info_parts G9
 have e:Tryz.prog.info? 31=some Tryz.t31:=by kernel_rfl
 obtain rfl:Tryz.t31=i:=by rw [e] at hi;exact Option.some.inj hi
 simp [zeroValue,go_sem,hz]
theorem JQ (w:World):(isAgg 49).run Tryz.prog w=.ok true w:=by simp [isAgg,go_sem]
theorem JR (w:World):(isAgg 31).run Tryz.prog w=.ok true w:=by simp [isAgg,go_sem]
theorem GA (w:World):(sizeOf 49).run Tryz.prog w=.ok 14 w:=by simp [go_sem]
theorem DY (w:World):(sizeOf 31).run Tryz.prog w=.ok 6 w:=by simp [go_sem]
variable {w:World} {b:Nat}
theorem pz (h:okO 14 (hp w b)=true):(loadVar 49 ⟨b,0,none⟩).run Tryz.prog w=.ok (.agg (gP (hp w b))) w:=lg JQ GA h
theorem p8 (h:okO 6 (hp w b)=true):(loadVar 31 ⟨b,0,none⟩).run Tryz.prog w=.ok (.agg (gP (hp w b))) w:=lg JR DY h
theorem GD (h:okO 14 (hp w b)=true):(Instr.loadAt 49 (.pointer (some ⟨b,0,none⟩))).run Tryz.prog w=.ok (.agg (gP (hp w b))) w:=by
 simp only [Instr.loadAt,Instr.sureAddr,Sem.run_bind,Sem.run_pure,Result.andThen_ok,pz h]
theorem GG (h:okO 6 (hp w b)=true):(Instr.loadAt 31 (.pointer (some ⟨b,0,none⟩))).run Tryz.prog w=.ok (.agg (gP (hp w b))) w:=by
 simp only [Instr.loadAt,Instr.sureAddr,Sem.run_bind,Sem.run_pure,Result.andThen_ok,p8 h]
theorem aA (x:Ha) (h:okO 14 (hp w b)=true):(Instr.storeAt 49 (.pointer (some ⟨b,0,none⟩)) (.agg (aa x))).run Tryz.prog w=.ok () (bI w b (aa x)):=by
 simp only [Instr.storeAt,Instr.sureAddr,Sem.run_bind,Sem.run_pure,Result.andThen_ok]
 exact pq GA h rfl (by simp [aa,Value.oneCell'])
theorem aK (c:Ch) (x y:Option Addr) (n p m q:Nat) (h:okO 6 (hp w b)=true):(Instr.storeAt 31 (.pointer (some ⟨b,0,none⟩)) (.agg (af c (.slice x n p) (.slice y m q)))).run Tryz.prog w=.ok () (bI w b (af c (.slice x n p) (.slice y m q))):=by
 simp only [Instr.storeAt,Instr.sureAddr,Sem.run_bind,Sem.run_pure,Result.andThen_ok]
 exact pq DY h rfl (by simp [af,Value.oneCell'])
theorem ax (x:Ha) (h:okO 14 (hp w b)=true):(storeCells ⟨b,0,none⟩ (aa x).toList).run Tryz.prog w=.ok () (bI w b (aa x)):=kL h rfl (by simp [aa,Value.oneCell'])
theorem aB (c:Ch) (x y:Option Addr) (n p m q:Nat) (h:okO 6 (hp w b)=true):(storeCells ⟨b,0,none⟩ (af c (.slice x n p) (.slice y m q)).toList).run Tryz.prog w=.ok () (bI w b (af c (.slice x n p) (.slice y m q))):=kL h rfl (by simp [af,Value.oneCell'])
def oH (x:Value):Sem Value:=Instr.loadAt 49 x
def GH (x:Addr):Sem Value:=loadVar 49 x
theorem aM (x:Value):Instr.loadAt 49 x=oH x:=by unfold oH;simp
theorem aN (x:Addr):loadVar 49 x=GH x:=by unfold GH;simp
theorem GI (h:okO 14 (hp w b)=true):(oH (.pointer (some ⟨b,0,none⟩))).run Tryz.prog w=.ok (.agg (gP (hp w b))) w:=GD h
theorem GJ (h:okO 14 (hp w b)=true):(GH ⟨b,0,none⟩).run Tryz.prog w=.ok (.agg (gP (hp w b))) w:=pz h
def yo (x:Value):Sem Value:=Instr.loadAt 31 x
def GK (x:Addr):Sem Value:=loadVar 31 x
theorem bz (x:Value):Instr.loadAt 31 x=yo x:=by unfold yo;simp
theorem bB (x:Addr):loadVar 31 x=GK x:=by unfold GK;simp
theorem GM (h:okO 6 (hp w b)=true):(yo (.pointer (some ⟨b,0,none⟩))).run Tryz.prog w=.ok (.agg (gP (hp w b))) w:=GG h
theorem GN (h:okO 6 (hp w b)=true):(GK ⟨b,0,none⟩).run Tryz.prog w=.ok (.agg (gP (hp w b))) w:=p8 h
theorem aj (x:Ha) (h:hp w b=some (.cells (aa x) 49)):(loadVar 49 ⟨b,0,none⟩).run Tryz.prog w=.ok (.agg (aa x)) w:=by
 have:=pz (w:=w) (b:=b) (by rw [h];simp [okO,lJ])
 rw [h] at this
 exact this
theorem az (c:Ch) (x y:Value) (h:hp w b=some (.cells (af c x y) 31)):(loadVar 31 ⟨b,0,none⟩).run Tryz.prog w=.ok (.agg (af c x y)) w:=by
 have:=p8 (w:=w) (b:=b) (by rw [h];simp [okO,DU])
 rw [h] at this
 exact this
attribute [go_sem] GI GJ aI qQ Bd Be Bf Bg Bh Ex yl tJ G6 Bi JO JP ym tK pg Ey Ez Ew oG tH qO Option.map_some Ox Oy Oz O0 Nc lJ Jp Jq Jr Js Jt Ju Jv Jw Jy Jz J2 J3 J4 J5 J6 J7 J8 J9 JA JB Gt Gu Gv Gw Gx Gy Gz G5
attribute [go_sem] GM GN Nf DU JC JD JE JF JG JH JI JJ JK JM JL JN
end
section
open Go.RowKit
theorem fD (n m k:Int) (w:World):Calls Tryz.prog 121 #[.int .i64 n,.int .i64 m,.int .i64 k] w fun e w'=>e=.returned (.bool (dL n m k))∧w=w':=by
 go_enter Tryz.func121,Tryz.ntmps121
 go_wp2
 all_goals go_ret
 ·exact ⟨aZ (Gi ‹_›),rfl⟩
 ·exact ⟨aZ (qK (.inl ‹_›)).symm,rfl⟩
theorem pX (n:Int) (w:World):Calls Tryz.prog 171 #[.int .i64 n] w fun r w'=>r=.returned (.bool (dL n 0 10))∧w=w':=by
 go_enter Tryz.func171,Tryz.ntmps171
 go_wp2_with (go_at_call 121;refine (fD _ _ _ _).mono ?_;rintro _ _ ⟨rfl,rfl⟩)
 go_ret
 exact ⟨rfl,rfl⟩
theorem jY (n:Int) (w:World):Calls Tryz.prog 122 #[.int .i64 n] w fun r w'=>r=.returned (.bool (dL n 0 999))∧w=w':=by
 go_enter Tryz.func122,Tryz.ntmps122
 go_wp2_with (go_at_call 121;refine (fD _ _ _ _).mono ?_;rintro _ _ ⟨rfl,rfl⟩)
 go_ret
 exact ⟨rfl,rfl⟩
theorem jq (s e t:Int) (w:World):Calls Tryz.prog 162 #[.agg #[.int .i64 s,.int .i64 e,.int .i64 t]] w fun r w'=>r=.returned (.bool (iN s e t))∧Below w.heap.size w w':=by
 go_enter Tryz.func162,Tryz.ntmps162
 go_wp2_with (first|(go_at_call 171;refine (pX _ _).mono ?_;rintro _ _ ⟨rfl,rfl⟩)|(go_at_call 122;refine (jY _ _).mono ?_;rintro _ _ ⟨rfl,rfl⟩)|(go_at_call 121;refine (fD _ _ _ _).mono ?_;rintro _ _ ⟨rfl,rfl⟩))
 all_goals go_ret
 all_goals refine ⟨aZ ?_,by exact zB⟩
 ·exact DL ‹_› ‹_›
 ·exact DK ‹_›
 ·exact DJ ‹_›
end
section
open Go.RowKit
theorem pY (k e:Int) (w:World):Calls Tryz.prog 170 #[.agg #[.int .i64 k,.int .i64 e]] w fun r w'=>r=.returned (.bool (dO k e))∧Below w.heap.size w w':=by
 go_enter Tryz.func170,Tryz.ntmps170
 go_wp2_with (go_at_call 122;refine (jY _ _).mono ?_;rintro _ _ ⟨rfl,rfl⟩)
 all_goals go_ret
 all_goals exact ⟨aZ (by simp_all [dO]),by exact zB⟩
theorem vY (k e x:Int) (w:World):Calls Tryz.prog 120 #[.agg #[.int .i64 k,.int .i64 e],.int .i64 x] w fun r w'=>r=.returned (.bool (kK k e x))∧Below w.heap.size w w':=by
 go_enter Tryz.func120,Tryz.ntmps120
 go_wp2_with (first|(go_at_call 170;refine (pY _ _ _).mono ?_;rintro _ w1 ⟨rfl,ag⟩;have hBw1:Below w.heap.size w w1:=bT zB ag;have ak:=ag.size;(try (simp at ak));have:=fun o=>ag.cell (p:=⟨w.heap.size,o,none⟩) (by ((try simp);(try omega)));have:=fun o=>ag.frozen (p:=⟨w.heap.size,o,none⟩) (by ((try simp);(try omega)));have:w.heap.size<w1.heap.size:=tO;have:w.heap.size≤w1.heap.size:=tO;have:w.heap.size≤w1.heap.size+1:=tO)|(go_at_call 121;refine (fD _ _ _ _).mono ?_;rintro _ _ ⟨rfl,rfl⟩))
 all_goals go_ret
 all_goals exact ⟨aZ (by simp_all [kK]),by exact zB⟩
theorem Bo (k e:Int) (w:World):Calls Tryz.prog 169 #[.agg #[.int .i64 k,.int .i64 e]] w fun r w'=>r=.returned (.bool (qL k e))∧Below w.heap.size w w':=by
 go_enter Tryz.func169,Tryz.ntmps169
 go_wp2
 all_goals go_ret
 all_goals exact ⟨aZ (by simp_all [qL]),by exact zB⟩
end
section
open Go.RowKit
theorem mH (n:Int) (w:World):Calls Tryz.prog 161 #[.int .i64 n] w fun r w'=>r=.returned (.bool (dL n 0 40))∧w=w':=by
 go_enter Tryz.func161,Tryz.ntmps161
 go_wp2_with (go_at_call 121;refine (fD _ _ _ _).mono ?_;rintro _ _ ⟨rfl,rfl⟩)
 go_ret
 exact ⟨rfl,rfl⟩
theorem JS (cap sent got fin:Int) (cells:List C3) (words:List Int) (h:fo ⟨cap,sent,got,fin,cells,words⟩=false):false=aG ⟨cap,sent,got,fin,cells,words⟩:=by simp [aG,h]
theorem GQ {cap sent got fin:Int} {cells:List C3} {words:List Int} (h:fo ⟨cap,sent,got,fin,cells,words⟩=true) :
  dL cap 0 4=true∧dL sent 0 40=true∧dL got 0 40=true∧dL fin 0 40=true∧cells.length=40∧words.length≤80:=by
 simpa [fo] using h
theorem Bp (cap sent got fin:Int) (cells:List C3) (words:List Int) (a b:Option Addr) (p q:Nat) (w:World) (h:fo ⟨cap,sent,got,fin,cells,words⟩=false) :
  Calls Tryz.prog 112 #[.agg #[.int .i64 cap,.int .i64 sent,.int .i64 got,.int .i64 fin,.slice a cells.length p,.slice b words.length q]] w fun r w'=>r=.returned (.bool (aG ⟨cap,sent,got,fin,cells,words⟩))∧Below w.heap.size w w':=by
 rw [← JS _ _ _ _ _ _ h]
 have H:=Lib.hid h
 clear h
 go_enter Tryz.func112,Tryz.ntmps112
 go_wp2_with (first|(go_at_call 121;refine (fD _ _ _ _).mono ?_;rintro _ _ ⟨rfl,rfl⟩)|(go_at_call 161;refine (mH _ _).mono ?_;rintro _ _ ⟨rfl,rfl⟩))
 all_goals first|(go_ret;exact ⟨rfl,by exact zB⟩)|skip
 exfalso
 have h:=H.out
 simp [fo, *] at h
 omega
theorem ve {cap sent got fin:Int} {cells:List C3} {words:List Int} {k:Nat} {c:C3} (hk:k<cells.length) (hc:cells.getD k ⟨0,0,0⟩=c) (h:fe words.length c=false):false=aG ⟨cap,sent,got,fin,cells,words⟩:=by
 have:cells.all (fe words.length)=false:=by
  rw [List.all_eq_false]
  refine ⟨cells[k],List.getElem_mem hk,?_⟩
  rw [← hc] at h
  simpa [List.getD,List.getElem?_eq_getElem hk] using h
 simp [aG,this]
theorem E5 {cap sent got fin:Int} {cells:List C3} {words:List Int} {k:Nat} {x:Int} (hk:k<words.length) (hc:words.getD k 0=x) (h:dL x 0 2=false):false=aG ⟨cap,sent,got,fin,cells,words⟩:=by
 have:words.all (fun x=>dL x 0 2)=false:=by
  rw [List.all_eq_false]
  refine ⟨words[k],List.getElem_mem hk,?_⟩
  rw [← hc] at h
  simpa [List.getD,List.getElem?_eq_getElem hk] using h
 simp [aG,this]
theorem qV {words:List Int} {k:Nat} {x:Int} (hk:k<words.length) (hc:words.getD k 0=x) (h:(words.take k).all (fun x=>dL x 0 2)=true) (h1:dL x 0 2=true):(words.take (k+1)).all (fun x=>dL x 0 2)=true:=by
 have e:words.take (k+1)=words.take k ++ [x]:=by
  rw [List.take_succ_eq_append_getElem hk,← hc];simp [List.getD,List.getElem?_eq_getElem hk]
 rw [e,List.all_append,h];simp [h1]
def fitsAt (words:List Int) (cells:List C3) (k:Nat):Prop:=(cells.take k).all (fe words.length)=true
theorem GU {cap sent got fin:Int} {cells:List C3} {words:List Int} (h:fo ⟨cap,sent,got,fin,cells,words⟩=true) (h1:fitsAt words cells cells.length) (h2:(words.take words.length).all (fun x=>dL x 0 2)=true):true=aG ⟨cap,sent,got,fin,cells,words⟩:=by
 unfold fitsAt at h1
 rw [List.take_length] at h1 h2
 unfold aG
 rw [h,h1,h2];rfl
theorem E8 {words:List Int} {cells:List C3} {k:Nat} {c:C3} (hk:k<cells.length) (hc:cells.getD k ⟨0,0,0⟩=c) (h:fitsAt words cells k) (h1:fe words.length c=true):fitsAt words cells (k+1):=by
 unfold fitsAt at *
 rw [lF cells k hk,hc,List.all_append,h];simp [h1]
set_option linter.unusedSimpArgs false in
theorem yt (cap sent got fin:Int) (cells:List C3) (words:List Int) (a b:Option Addr) (p q:Nat) (w:World) (h1:eY w w.heap.size a cells) (h2:eZ w w.heap.size b words) (h:fo ⟨cap,sent,got,fin,cells,words⟩=true) :
  Calls Tryz.prog 112 #[.agg #[.int .i64 cap,.int .i64 sent,.int .i64 got,.int .i64 fin,.slice a cells.length p,.slice b words.length q]] w fun r w'=>r=.returned (.bool (aG ⟨cap,sent,got,fin,cells,words⟩))∧Below w.heap.size w w':=by
 obtain ⟨i1,i2,i3,i4,i5,i6⟩:=GQ h
 have hl:((cells.length:Int) != 40)=false:=by simp;omega
 have hl0:cells.length≤40:=by omega
 have hw:decide (80<(words.length:Int))=false:=by simp;omega
 have H1:=Lib.hid h1
 have H2:=Lib.hid h2
 have HH:=Lib.hid h
 have I5:=Lib.hid i5
 clear h1 h2 h i5
 obtain ⟨b1,o1,rfl,hb1,hc1⟩:∃ b o,a=some ⟨b,o,none⟩∧b<w.heap.size∧Hid (∀ i j,i<cells.length→j<3→w.cell? ⟨b,o+i*3+j,none⟩=some (eT cells i j)):=by
  rcases H1.out with h0|h0
  ·exact absurd h0 (by have:=I5.out;omega)
  ·exact h0
 go_enter Tryz.func112,Tryz.ntmps112
 go_wp2_with (first|(go_at_call 121;refine (fD _ _ _ _).mono ?_;rintro _ _ ⟨rfl,rfl⟩)|(go_at_call 161;refine (mH _ _).mono ?_;rintro _ _ ⟨rfl,rfl⟩))
 go_loopw [3] (fun i wr=>∃ k:Nat,k≤cells.length∧i=.int .i64 k∧fitsAt words cells k∧(∀ o,wr.cell? ⟨w.heap.size,o,none⟩=#[Value.int .i64 cap,.int .i64 sent,.int .i64 got,.int .i64 fin,.slice (some ⟨b1,o1,none⟩) cells.length p,.slice b words.length q][o]?)∧w.heap.size<wr.heap.size∧Below w.heap.size w wr) (fun i _=>cells.length - (intOf i).toNat)
 case atStart=>exact ⟨0,Nat.zero_le _,rfl,rfl,fun o=>by simp,by simp,by exact zB⟩
 case round =>
  obtain ⟨k,hk,rfl,hfit,hbx,hlt1,hB⟩:=hrel
  by_cases hlt:k<cells.length
  ·have c0:=(hB.cell (p:=⟨b1,o1+k*3+0,none⟩) hb1).trans (hc1.out k 0 hlt tO)
   have c1:=(hB.cell (p:=⟨b1,o1+k*3+1,none⟩) hb1).trans (hc1.out k 1 hlt tO)
   have c2:=(hB.cell (p:=⟨b1,o1+k*3+2,none⟩) hb1).trans (hc1.out k 2 hlt tO)
   simp only [eT,C3.val,Nat.add_zero] at c0 c1 c2
   generalize hcg:cells.getD k ⟨0,0,0⟩=c at c0 c1 c2
   have HC:=Lib.hid hcg
   clear hcg
   have x4:=hbx 4
   have x5:=hbx 5
   simp at x4 x5
   have hk0:(0:Int)≤(k:Int):=by omega
   have hk1:(k:Int)<(cells.length:Int):=by omega
   by_cases hok:iN c.s c.e c.t=true
   ·go_wp2_with fail
    go_region_held3 (fun w'=>w'.cell? ⟨w.heap.size,4,none⟩=some (.slice (some ⟨b1,o1,none⟩) cells.length p)∧w'.cell? ⟨w.heap.size,5,none⟩=some (.slice b words.length q)∧w'.cell? ⟨b1,o1+k*3,none⟩=some (.int .i64 c.s)∧w'.cell? ⟨b1,o1+k*3+1,none⟩=some (.int .i64 c.e)∧w'.cell? ⟨b1,o1+k*3+2,none⟩=some (.int .i64 c.t))
     (first|(simp [*,go_sem]))
     (first|(go_at_call 162;refine (jq _ _ _ _).mono ?_;rintro _ w7 ⟨rfl,qc⟩;have vZ:Below w.heap.size w w7:=bT zB qc;have:=qc.cell (p:=⟨w.heap.size,4,none⟩) (by simp;omega);have:=qc.cell (p:=⟨w.heap.size,5,none⟩) (by simp;omega);have:=qc.cell (p:=⟨b1,o1+k*3,none⟩) (by simp;omega);have:=qc.cell (p:=⟨b1,o1+k*3+1,none⟩) (by simp;omega);have:=qc.cell (p:=⟨b1,o1+k*3+2,none⟩) (by simp;omega);have hx7:=fun o=>(qc.cell (p:=⟨w.heap.size,o,none⟩) (by simp;omega)).trans (hbx o);have hs7:=qc.size;simp at hs7))
    by_cases hct:(words.length:Int)<c.t
    ·go_wp2
     go_ret
     exact ⟨aZ (ve hlt HC.out (by simp [fe,MC,hok];omega)),vZ⟩
    ·go_wp2
     go_roundw
     case rel=>exact ⟨k+1,by omega,by go_num,E8 hlt HC.out hfit (by simp [fe,MC,hok];omega),hx7,by omega,vZ⟩
     case measure=>simp [intOf];omega
   ·have hok2:iN c.s c.e c.t=false:=by simpa using hok
    clear hok x5
    go_wp2_with fail
    refine wp_region_held_drew (S:=fun w'=>w'.cell? ⟨w.heap.size,4,none⟩=some (.slice (some ⟨b1,o1,none⟩) cells.length p)∧w'.cell? ⟨b1,o1+k*3,none⟩=some (.int .i64 c.s)∧w'.cell? ⟨b1,o1+k*3+1,none⟩=some (.int .i64 c.e)∧w'.cell? ⟨b1,o1+k*3+2,none⟩=some (.int .i64 c.t)) (by kernel_rfl) (by simp [*,go_sem]) (fun hS0=>?_)
    refine mT (i:=0) (oi:=⟨some 46,_,_,_,_,_⟩) rfl ?_;(try simp only [Act.put,List.setIfInBounds_toArray,List.set_cons_zero,List.set_cons_succ])
    refine mT (i:=1) (oi:=⟨some 47,_,_,_,_,_⟩) rfl ?_;(try simp only [Act.put,List.setIfInBounds_toArray,List.set_cons_zero,List.set_cons_succ])
    refine mT (i:=2) (oi:=⟨some 48,_,_,_,_,_⟩) rfl ?_;(try simp only [Act.put,List.setIfInBounds_toArray,List.set_cons_zero,List.set_cons_succ])
    refine mT (i:=3) (oi:=⟨some 49,_,_,_,_,_⟩) rfl ?_;(try simp only [Act.put,List.setIfInBounds_toArray,List.set_cons_zero,List.set_cons_succ])
    refine mT (i:=4) (oi:=⟨some 50,_,_,_,_,_⟩) rfl ?_;(try simp only [Act.put,List.setIfInBounds_toArray,List.set_cons_zero,List.set_cons_succ])
    refine wpAnyH_ready (rs:=[5]) (by kernel_rfl) (by simp) ?_
    refine AllReadyH.cons (o:=⟨some 51,_,_,_,_,_⟩) rfl (fun K hK=>?_) AllReadyH.nil
    go_simp
    go_at_call 162
    refine (jq _ _ _ _).mono ?_
    rintro _ w7 ⟨rfl,qc⟩
    have vZ:Below w.heap.size w w7:=bT zB qc
    rw [hok2]
    refine hK.out _ _ ?_ (fun PR=>?_)
    ·refine ⟨(qc.cell (by simp;omega)).trans x4,(qc.cell (by simp;omega)).trans c0,(qc.cell (by simp;omega)).trans c1,(qc.cell (by simp;omega)).trans c2⟩
    clear hK
    (try simp only [Act.put,List.setIfInBounds_toArray,List.set_cons_zero,List.set_cons_succ])
    refine mT (i:=6) (oi:=⟨some 52,_,_,_,_,_⟩) rfl ?_;(try simp only [Act.put,List.setIfInBounds_toArray,List.set_cons_zero,List.set_cons_succ])
    refine mT (i:=7) (oi:=⟨some 53,_,_,_,_,_⟩) rfl ?_;(try simp only [Act.put,List.setIfInBounds_toArray,List.set_cons_zero,List.set_cons_succ])
    refine mS (i:=8) (oi:=⟨some 54,_,_,_,_,_⟩) rfl ?_;(try simp only [Act.put,List.setIfInBounds_toArray,List.set_cons_zero,List.set_cons_succ])
    refine mS (i:=9) (oi:=⟨some 55,_,_,_,_,_⟩) rfl ?_;(try simp only [Act.put,List.setIfInBounds_toArray,List.set_cons_zero,List.set_cons_succ])
    refine mS (i:=10) (oi:=⟨some 56,_,_,_,_,_⟩) rfl ?_;(try simp only [Act.put,List.setIfInBounds_toArray,List.set_cons_zero,List.set_cons_succ])
    refine mS (i:=11) (oi:=⟨some 57,_,_,_,_,_⟩) rfl ?_;(try simp only [Act.put,List.setIfInBounds_toArray,List.set_cons_zero,List.set_cons_succ])
    refine mS (i:=12) (oi:=⟨some 58,_,_,_,_,_⟩) rfl ?_;(try simp only [Act.put,List.setIfInBounds_toArray,List.set_cons_zero,List.set_cons_succ])
    refine mS (i:=13) (oi:=⟨some 59,_,_,_,_,_⟩) rfl ?_;(try simp only [Act.put,List.setIfInBounds_toArray,List.set_cons_zero,List.set_cons_succ])
    refine mS (i:=14) (oi:=⟨some 60,_,_,_,_,_⟩) rfl ?_;(try simp only [Act.put,List.setIfInBounds_toArray,List.set_cons_zero,List.set_cons_succ])
    refine mS (i:=15) (oi:=⟨some 61,_,_,_,_,_⟩) rfl ?_;(try simp only [Act.put,List.setIfInBounds_toArray,List.set_cons_zero,List.set_cons_succ])
    refine mS (i:=16) (oi:=⟨some 62,_,_,_,_,_⟩) rfl ?_;(try simp only [Act.put,List.setIfInBounds_toArray,List.set_cons_zero,List.set_cons_succ])
    refine mS (i:=17) (oi:=⟨some 63,_,_,_,_,_⟩) rfl ?_;(try simp only [Act.put,List.setIfInBounds_toArray,List.set_cons_zero,List.set_cons_succ])
    refine mT (i:=18) (oi:=⟨some 64,_,_,_,_,_⟩) rfl ?_;(try simp only [Act.put,List.setIfInBounds_toArray,List.set_cons_zero,List.set_cons_succ])
    refine wpAnyH_done (by kernel_rfl) ?_ _
    go_wp2
    go_ret
    exact ⟨aZ (ve hlt HC.out (by simp [fe,MC,hok2])),vZ⟩
  ·have:k=cells.length:=by omega
   subst this
   go_wp2
   go_loopw [4] (fun i wr=>∃ k:Nat,k≤words.length∧i=.int .i64 k∧Hid ((words.take k).all (fun x=>dL x 0 2)=true)∧(∀ o,wr.cell? ⟨w.heap.size,o,none⟩=#[Value.int .i64 cap,.int .i64 sent,.int .i64 got,.int .i64 fin,.slice (some ⟨b1,o1,none⟩) cells.length p,.slice b words.length q][o]?)∧w.heap.size<wr.heap.size∧Below w.heap.size w wr) (fun i _=>words.length - (intOf i).toNat)
   case atStart=>exact ⟨0,Nat.zero_le _,rfl,rfl,hbx,hlt1,hB⟩
   case round =>
    clear hbx hlt1 hB hk
    obtain ⟨k,hk,rfl,hall,hbx,hlt1,hB⟩:=hrel
    have x5:=hbx 5
    simp at x5
    by_cases hlt:k<words.length
    ·obtain h0|⟨b2,o2,rfl,hb2,hc2⟩:=H2.out
     ·omega
     have c0:=(hB.cell (p:=⟨b2,o2+k*1+0,none⟩) hb2).trans (hc2 k 0 hlt tO)
     simp only [fP,Nat.add_zero,Nat.mul_one] at c0
     clear hc2
     generalize hcg:words.getD k 0=x at c0
     have HC:=Lib.hid hcg
     clear hcg
     go_wp2_with (go_at_call 121;refine (fD _ _ _ _).mono ?_;rintro _ _ ⟨rfl,rfl⟩)
     ·go_ret
      exact ⟨aZ (E5 hlt HC.out (not_true ‹_›)),hB⟩
     ·go_roundw
      case rel=>exact ⟨k+1,by omega,by go_num,qV hlt HC.out hall.out (not_false ‹_›),hbx,hlt1,hB⟩
      case measure=>simp [intOf];omega
    ·have:k=words.length:=by omega
     subst this
     go_wp2
     go_ret
     exact ⟨aZ (GU HH.out hfit hall.out),hB⟩
theorem jr (c:Ch) (a b:Option Addr) (p q:Nat) (w:World) (h1:eY w w.heap.size a c.cells) (h2:eZ w w.heap.size b c.words) :
  Calls Tryz.prog 112 #[.agg #[.int .i64 c.cap,.int .i64 c.sent,.int .i64 c.got,.int .i64 c.fin,.slice a c.cells.length p,.slice b c.words.length q]] w fun r w'=>r=.returned (.bool (aG c))∧Below w.heap.size w w':=by
 obtain ⟨cap,sent,got,fin,cells,words⟩:=c
 by_cases h:fo ⟨cap,sent,got,fin,cells,words⟩=true
 ·exact yt cap sent got fin cells words a b p q w h1 h2 h
 ·exact Bp cap sent got fin cells words a b p q w (by simpa using h)
end
section
open Go.RowKit
attribute [local go_sem ↓] aH aM aN aA ax
theorem iP (h:Ha) (w:World):Calls Tryz.prog 119 #[.agg (aa h)] w fun r w'=>r=.returned (.bool (bF h))∧Below w.heap.size w w':=by
 go_enter Tryz.func119,Tryz.ntmps119
 go_wp2_with (first|(go_at_call 121;refine (fD _ _ _ _).mono ?_;rintro _ _ ⟨rfl,rfl⟩)|(go_at_call 171;refine (pX _ _).mono ?_;rintro _ _ ⟨rfl,rfl⟩)|(go_at_call 122;refine (jY _ _).mono ?_;rintro _ _ ⟨rfl,rfl⟩)|(go_at_call 161;refine (mH _ _).mono ?_;rintro _ _ ⟨rfl,rfl⟩)|(go_at_call 170;refine au w zB fun bb=>?_;refine (pY _ _ _).mono ?_;rintro _ w1 ⟨rfl,ag⟩;obtain ⟨aV,ak,zz⟩:=Ng bb ag (b:=w.heap.size);(try simp at ak);(try simp [go_sem] at zz);replace bX:=MH zz;clear zz ag bb)|(go_at_call 169;refine au w zB fun bb=>?_;refine (Bo _ _ _).mono ?_;rintro _ w1 ⟨rfl,ag⟩;obtain ⟨aV,ak,zz⟩:=Ng bb ag (b:=w.heap.size);(try simp at ak);(first|simp [go_sem,bX] at zz|simp [go_sem] at zz|skip);replace bX:=MH zz;clear zz ag bb))
 all_goals go_ret
 all_goals exact ⟨aZ (by simp_all [bF,pW,uX,DN]),by exact zB⟩
theorem fB (x o:Int) (w:World):Calls Tryz.prog 130 #[.int .i64 x,.int .i64 o] w fun r w'=>r=.returned (.agg (aa (aS x o)))∧Below w.heap.size w w':=by
 go_enter Tryz.func130,Tryz.ntmps130
 go_wp2
 refine bodyPost_ret (gH Tryz.results130 rfl (aj (aS x o) (by simp [go_sem] <;> rfl))) rfl ⟨rfl,by exact zB⟩
theorem yu (k e b:Int) (w:World):Calls Tryz.prog 194 #[.agg #[.int .i64 k,.int .i64 e],.int .i64 b] w fun r w'=>r=.returned (.agg (aa (begun k e b)))∧Below w.heap.size w w':=by
 by_cases h:k=2
 ·subst h
  go_enter Tryz.func194,Tryz.ntmps194
  go_wp2
  refine bodyPost_ret (gH Tryz.results194 rfl (aj (begun 2 e b) (by simp [go_sem] <;> rfl))) rfl ⟨rfl,by exact zB⟩
 ·have e1:begun k e b=⟨1,k,e,0,0,0,0,0,0,0,0,b,0,0⟩:=by simp [begun,h]
  rw [e1]
  have h2:(k == 2)=false:=by simpa using h
  clear h
  go_enter Tryz.func194,Tryz.ntmps194
  go_wp2
  refine bodyPost_ret (gH Tryz.results194 rfl (aj ⟨1,k,e,0,0,0,0,0,0,0,0,b,0,0⟩ (by simp [go_sem] <;> rfl))) rfl ⟨rfl,by exact zB⟩
theorem jf (h:Ha) (w:World):Calls Tryz.prog 207 #[.agg (aa h)] w fun r w'=>r=.returned (.agg (aa (begun h.code h.elem h.beg)))∧Below w.heap.size w w':=by
 go_enter Tryz.func207,Tryz.ntmps207
 go_wp2_with fail;refine au w zB fun bb=>?_;refine (yu h.code h.elem h.beg _).mono ?_;rintro _ w1 ⟨rfl,ag⟩;obtain ⟨aV,ak,zz⟩:=Bj bb ag (b:=w.heap.size);(try simp at ak);(try simp [go_sem] at zz);replace bX:=xU zz;clear zz ag bb
 go_wp2
 refine bodyPost_ret (gH Tryz.results207 rfl (aj (begun h.code h.elem h.beg) tZ)) rfl ⟨rfl,by exact zB⟩
end
end Go.Proofs.YtffhjmepfojhnaaGreat
