/-
  Structs that are kept, loaded and stored as one value; no condition.
  Hands and channels of the program, loaded and stored whole; no condition.
  The contracts of the reference model's functions of chapter 1; no condition.
  The reference model's functions of chapter 4; no condition.
  The reference model's functions of chapter 2; lists lie in memory and hold at most what memory can hold.
  The reference model's functions of chapter 5, on hands that are kept whole; no condition.
-/
import Derived.Test.YtmnpgkcdfielbaaGreatP01
import Derived.Laws.IdiomCopy
set_option linter.unusedSimpArgs false
set_option linter.unusedVariables false
namespace Go.Proofs.YtmnpgkcdfielbaaGreat
open Go.RowKit
/-- A hand as it lies in memory. -/
def hvals (h:Ha):Array Value:=#[.int .i64 h.pos,.int .i64 h.code,.int .i64 h.elem,.int .i64 h.cell,.int .i64 h.seen,.int .i64 h.wait,.int .i64 h.fin,.int .i64 h.come,.int .i64 h.grow,.int .i64 h.mine,.int .i64 h.nxt,.int .i64 h.beg,.int .i64 h.reply,.int .i64 h.out]
theorem hv_ne (h:Ha):(hvals h=#[])=False:=by simp [hvals]
theorem hv_size (h:Ha):(hvals h).size=14:=rfl
theorem hv_get0 (h:Ha):(hvals h)[0]?=some (.int .i64 h.pos):=rfl
theorem hv_set0 (h:Ha) (x:Int):(hvals h).setIfInBounds 0 (.int .i64 x)=hvals { h with pos:=x }:=rfl
theorem hv_get1 (h:Ha):(hvals h)[1]?=some (.int .i64 h.code):=rfl
theorem hv_set1 (h:Ha) (x:Int):(hvals h).setIfInBounds 1 (.int .i64 x)=hvals { h with code:=x }:=rfl
theorem hv_get2 (h:Ha):(hvals h)[2]?=some (.int .i64 h.elem):=rfl
theorem hv_set2 (h:Ha) (x:Int):(hvals h).setIfInBounds 2 (.int .i64 x)=hvals { h with elem:=x }:=rfl
theorem hv_get3 (h:Ha):(hvals h)[3]?=some (.int .i64 h.cell):=rfl
theorem hv_set3 (h:Ha) (x:Int):(hvals h).setIfInBounds 3 (.int .i64 x)=hvals { h with cell:=x }:=rfl
theorem hv_get4 (h:Ha):(hvals h)[4]?=some (.int .i64 h.seen):=rfl
theorem hv_set4 (h:Ha) (x:Int):(hvals h).setIfInBounds 4 (.int .i64 x)=hvals { h with seen:=x }:=rfl
theorem hv_get5 (h:Ha):(hvals h)[5]?=some (.int .i64 h.wait):=rfl
theorem hv_set5 (h:Ha) (x:Int):(hvals h).setIfInBounds 5 (.int .i64 x)=hvals { h with wait:=x }:=rfl
theorem hv_get6 (h:Ha):(hvals h)[6]?=some (.int .i64 h.fin):=rfl
theorem hv_set6 (h:Ha) (x:Int):(hvals h).setIfInBounds 6 (.int .i64 x)=hvals { h with fin:=x }:=rfl
theorem hv_get7 (h:Ha):(hvals h)[7]?=some (.int .i64 h.come):=rfl
theorem hv_set7 (h:Ha) (x:Int):(hvals h).setIfInBounds 7 (.int .i64 x)=hvals { h with come:=x }:=rfl
theorem hv_get8 (h:Ha):(hvals h)[8]?=some (.int .i64 h.grow):=rfl
theorem hv_set8 (h:Ha) (x:Int):(hvals h).setIfInBounds 8 (.int .i64 x)=hvals { h with grow:=x }:=rfl
theorem hv_get9 (h:Ha):(hvals h)[9]?=some (.int .i64 h.mine):=rfl
theorem hv_set9 (h:Ha) (x:Int):(hvals h).setIfInBounds 9 (.int .i64 x)=hvals { h with mine:=x }:=rfl
theorem hv_get10 (h:Ha):(hvals h)[10]?=some (.int .i64 h.nxt):=rfl
theorem hv_set10 (h:Ha) (x:Int):(hvals h).setIfInBounds 10 (.int .i64 x)=hvals { h with nxt:=x }:=rfl
theorem hv_get11 (h:Ha):(hvals h)[11]?=some (.int .i64 h.beg):=rfl
theorem hv_set11 (h:Ha) (x:Int):(hvals h).setIfInBounds 11 (.int .i64 x)=hvals { h with beg:=x }:=rfl
theorem hv_get12 (h:Ha):(hvals h)[12]?=some (.int .i64 h.reply):=rfl
theorem hv_set12 (h:Ha) (x:Int):(hvals h).setIfInBounds 12 (.int .i64 x)=hvals { h with reply:=x }:=rfl
theorem hv_get13 (h:Ha):(hvals h)[13]?=some (.int .i64 h.out):=rfl
theorem hv_set13 (h:Ha) (x:Int):(hvals h).setIfInBounds 13 (.int .i64 x)=hvals { h with out:=x }:=rfl
/-- A channel as it lies in memory, with its lists. -/
def cvals (c:Ch) (v1 v2:Value):Array Value:=#[.int .i64 c.cap,.int .i64 c.sent,.int .i64 c.got,.int .i64 c.fin,v1,v2]
theorem cv_ne (c:Ch) (v1 v2:Value):(cvals c v1 v2=#[])=False:=by simp [cvals]
theorem cv_size (c:Ch) (v1 v2:Value):(cvals c v1 v2).size=6:=rfl
theorem cv_get0 (c:Ch) (v1 v2:Value):(cvals c v1 v2)[0]?=some (.int .i64 c.cap):=rfl
theorem cv_set0 (c:Ch) (v1 v2:Value) (x:Int):(cvals c v1 v2).setIfInBounds 0 (.int .i64 x)=cvals { c with cap:=x } v1 v2:=rfl
theorem cv_get1 (c:Ch) (v1 v2:Value):(cvals c v1 v2)[1]?=some (.int .i64 c.sent):=rfl
theorem cv_set1 (c:Ch) (v1 v2:Value) (x:Int):(cvals c v1 v2).setIfInBounds 1 (.int .i64 x)=cvals { c with sent:=x } v1 v2:=rfl
theorem cv_get2 (c:Ch) (v1 v2:Value):(cvals c v1 v2)[2]?=some (.int .i64 c.got):=rfl
theorem cv_set2 (c:Ch) (v1 v2:Value) (x:Int):(cvals c v1 v2).setIfInBounds 2 (.int .i64 x)=cvals { c with got:=x } v1 v2:=rfl
theorem cv_get3 (c:Ch) (v1 v2:Value):(cvals c v1 v2)[3]?=some (.int .i64 c.fin):=rfl
theorem cv_set3 (c:Ch) (v1 v2:Value) (x:Int):(cvals c v1 v2).setIfInBounds 3 (.int .i64 x)=cvals { c with fin:=x } v1 v2:=rfl
theorem cv_get4 (c:Ch) (v1 v2:Value):(cvals c v1 v2)[4]?=some v1:=rfl
theorem cv_get5 (c:Ch) (v1 v2:Value):(cvals c v1 v2)[5]?=some v2:=rfl
theorem cv_set4 (c:Ch) (v1 v2 x:Value):(cvals c v1 v2).setIfInBounds 4 x=cvals c x v2:=rfl
theorem cv_set5 (c:Ch) (v1 v2 x:Value):(cvals c v1 v2).setIfInBounds 5 x=cvals c v1 x:=rfl
def setBoxO (vs:Array Value):Obj→Obj
  | .cells _ t fr=>.cells vs t fr
  | o=>o
def setCellO (i:Nat) (v:Value):Obj→Obj
  | .cells c t fr=>.cells (c.setIfInBounds i v) t fr
  | o=>o
/-- Block b is written whole. -/
def setBox (w:World) (b:Nat) (vs:Array Value):World:={ w with heap:=w.heap.modify b (setBoxO vs) }
/-- What lies in block b. -/
def hp (w:World) (b:Nat):Option Obj:=w.heap[b]?
def okO (n:Nat):Option Obj→Bool
  | some (.cells c _ fr)=>c.size == n && (fr.1 == 0 && fr.2 == 0)
  | _=>false
def cellsO:Option Obj→Array Value
  | some (.cells c _ _)=>c
  | _=>#[]
theorem setBoxO_cells (vs c:Array Value) (t:TypeId):setBoxO vs (.cells c t)=.cells vs t:=rfl
theorem setCellO_cells (i:Nat) (v:Value) (c:Array Value) (t:TypeId):setCellO i v (.cells c t)=.cells (c.setIfInBounds i v) t:=rfl
theorem okO_cells (n:Nat) (c:Array Value) (t:TypeId):okO n (some (.cells c t))=(c.size == n):=by simp [okO]
theorem cellsO_cells (c:Array Value) (t:TypeId):cellsO (some (.cells c t))=c:=rfl
theorem okO_elim {n:Nat} {o:Option Obj} (h:okO n o=true):∃ c t,o=some (.cells c t)∧c.size=n:=by
  unfold okO at h
  split at h
  · rename_i c t fr
    obtain ⟨f1,f2⟩:=fr
    simp at h
    obtain ⟨h1,rfl,rfl⟩:=h
    exact ⟨c,t,rfl,h1⟩
  · cases h
theorem lt_2 (n:Nat):n<n+1+1:=by omega
theorem lt_3 (n:Nat):n<n+1+1+1:=by omega
theorem lt_4 (n:Nat):n<n+1+1+1+1:=by omega
theorem lt_5 (n:Nat):n<n+1+1+1+1+1:=by omega
variable {w W:World} {b b' n i:Nat} {vs us:Array Value} {v:Value}
theorem bx_size:(setBox w b vs).heap.size=w.heap.size:=by simp [setBox]
theorem bx_heap_at:hp (setBox w b vs) b=(hp w b).map (setBoxO vs):=by simp [hp,setBox,Array.getElem?_modify]
theorem bx_heap_ne (h:b'≠b):(setBox w b vs).heap[b']?=w.heap[b']?:=by simp [setBox,Array.getElem?_modify,Ne.symm h]
theorem bx_heap_lt (h:b'<b):hp (setBox w b vs) b'=hp w b':=bx_heap_ne (by omega)
theorem bx_heap_gt (h:b<b'):hp (setBox w b vs) b'=hp w b':=bx_heap_ne (by omega)
theorem bx_cell_at (h:okO vs.size (hp w b)=true):(setBox w b vs).cell? ⟨b,i,none⟩=vs[i]?:=by
  obtain ⟨c,t,e,_⟩:=okO_elim h
  unfold hp at e
  simp [World.cell?,setBox,Array.getElem?_modify,e,setBoxO]
theorem bx_cell_ne (h:b'≠b):(setBox w b vs).cell? ⟨b',i,none⟩=w.cell? ⟨b',i,none⟩:=World.cell?_of_block (bx_heap_ne h)
theorem bx_cell_lt (h:b'<b):(setBox w b vs).cell? ⟨b',i,none⟩=w.cell? ⟨b',i,none⟩:=bx_cell_ne (by omega)
theorem bx_cell_gt (h:b<b'):(setBox w b vs).cell? ⟨b',i,none⟩=w.cell? ⟨b',i,none⟩:=bx_cell_ne (by omega)
theorem bx_frozen:(setBox w b vs).frozen? ⟨b',i,none⟩=w.frozen? ⟨b',i,none⟩:=by
  simp only [World.frozen?,setBox,Array.getElem?_modify]
  by_cases e:b=b'
  · subst e
    simp only [if_true]
    cases w.heap[b]? with
    | none=>rfl
    | some o=>cases o <;> rfl
  · simp [e]
theorem bx_alloc_at {c:Array Value} {t:TypeId} (hn:n=w.heap.size):setBox (w.alloc (.cells c t)) n vs=w.alloc (.cells vs t):=by
  subst hn
  unfold setBox World.alloc
  congr 1
  apply Array.ext_getElem?
  intro k
  simp only [Array.getElem?_modify,Array.getElem?_push]
  by_cases hk:k=w.heap.size
  · subst hk;simp [setBoxO]
  · simp [hk,Ne.symm hk]
theorem bx_alloc_past {o:Obj} (hn:n<w.heap.size):setBox (w.alloc o) n vs=(setBox w n vs).alloc o:=by
  unfold setBox World.alloc
  congr 1
  apply Array.ext_getElem?
  intro k
  simp only [Array.getElem?_modify,Array.getElem?_push,Array.size_modify]
  by_cases hk:k=w.heap.size
  · subst hk;simp [Nat.ne_of_lt hn]
  · simp [hk]
theorem bx_twice:setBox (setBox w b vs) b us=setBox w b us:=by
  unfold setBox
  congr 1
  apply Array.ext_getElem?
  intro k
  simp only [Array.getElem?_modify]
  by_cases e:b=k
  · subst e
    simp only [if_true]
    cases w.heap[b]? with
    | none=>rfl
    | some o=>cases o <;> rfl
  · simp [e]
theorem bx_setCell:(setBox w b vs).setCell ⟨b,i,none⟩ v=setBox w b (vs.setIfInBounds i v):=by
  unfold setBox World.setCell
  congr 1
  apply Array.ext_getElem?
  intro k
  simp only [Array.getElem?_modify]
  by_cases e:b=k
  · subst e
    simp only [if_true]
    cases w.heap[b]? with
    | none=>rfl
    | some o=>cases o <;> rfl
  · simp [e]
theorem bx_drew:setBox w.drew b vs=(setBox w b vs).drew:=rfl
theorem hp_drew:hp w.drew b=hp w b:=rfl
theorem hp_alloc_at {o:Obj} (hn:n=w.heap.size):hp (w.alloc o) n=some o:=by subst hn;exact heap_alloc_new w o
theorem hp_alloc_past {o:Obj} (hn:n<w.heap.size):hp (w.alloc o) n=hp w n:=Below.heap_alloc w o n hn
theorem hp_set_at:hp (w.setCell ⟨b,i,none⟩ v) b=(hp w b).map (setCellO i v):=by
  simp only [hp,World.setCell,Array.getElem?_modify]
  cases w.heap[b]? with
  | none=>simp
  | some o=>cases o <;> simp [setCellO]
theorem hp_set_lt (h:b'<b):hp (w.setCell ⟨b,i,none⟩ v) b'=hp w b':=Below.heap_setCell w _ v b' (by simp;omega)
theorem hp_set_gt (h:b<b'):hp (w.setCell ⟨b,i,none⟩ v) b'=hp w b':=Below.heap_setCell w _ v b' (by simp;omega)
theorem grHp {r:Option Nat} (h:w.grownBy W r) (hb:b<w.heap.size) (hn:some b≠r):hp W b=hp w b:=h.block b hb hn
theorem onlHp {r r':Option Nat} (h:Onl r r' w W) (hb:i<w.heap.size) (h1:some i≠r) (h2:some i≠r'):hp W i=hp w i:=h.2.2.2.2 i hb h1 h2
theorem bO {w:World} {b:Nat} {cs:Array Value} {t:TypeId} (h:hp w b=some (.cells cs t)):(∀ o,w.cell? ⟨b,o,none⟩=cs[o]?)∧(∀ o,w.frozen? ⟨b,o,none⟩=false)∧b<w.heap.size :=
  ⟨fun o=>cell_of_row w b o cs t _ h,fun o=>by have h2:w.heap[b]?=some (.cells cs t):=h;simp [World.frozen?,h2],(Array.getElem?_eq_some_iff.1 h).1⟩
theorem hpB (h:Below n w W) (hb:b<n):hp W b=hp w b:=h.block b hb
theorem hQ {n:Nat} {w W:World} (h:Below n w W) {b:Nat} (hb:b<n:=by ((try simp) <;> omega)):hp W b=hp w b:=hpB h hb
theorem q4 {n:Nat} {w W:World} (h:Below n w W) {b:Nat} (hb:b+1+1+1<n:=by ((try simp) <;> omega)):hp W (b+1+1+1)=hp w (b+1+1+1)∧hp W (b+1+1)=hp w (b+1+1)∧hp W (b+1)=hp w (b+1)∧hp W b=hp w b:=⟨hpB h (by omega),hpB h (by omega),hpB h (by omega),hpB h (by omega)⟩
theorem bBx {lo:Nat} (h:Below lo w W) (hb:lo≤b):Below lo w (setBox W b vs) :=
  ⟨h.os,h.tape,h.output,by rw [bx_size];exact h.size,fun k hk=>(bx_heap_ne (by omega)).trans (h.block k hk)⟩
theorem gBx {g:Nat} (h:Gr g w W) (hb:b=g∨w.heap.size≤b):Gr g w (setBox W b vs) :=
  ⟨h.os,h.tape,h.output,by rw [bx_size];exact h.size,fun k hk hn=>(bx_heap_ne (by rcases hb with hb|hb;exact fun e=>hn (by rw [e,hb]);omega)).trans (h.block k hk hn)⟩
theorem own_box {lo:Nat} {e:TypeId} {k m:Nat} {x:Value} {xs:List Value} (h:w.ownsRow lo e k x m xs) (hp:x.ownBlock≠some b):(setBox w b vs).ownsRow lo e k x m xs :=
  h.kept (row:=some b) ⟨rfl,rfl,rfl,by rw [bx_size];exact Nat.le_refl _,fun i _ hn=>bx_heap_ne (fun e=>hn (by rw [e]))⟩ (.inr hp)
theorem rowA {r:Option Nat} {o:Obj} (h:w.grownBy W r):w.grownBy (W.alloc o) r:=⟨h.os,h.tape,h.output,Nat.le_trans h.size (by simp),fun k hk hn=>(Below.heap_alloc W o k (Nat.lt_of_lt_of_le hk h.size)).trans (h.block k hk hn)⟩
theorem rowD {r:Option Nat} (h:w.grownBy W r):w.grownBy W.drew r:=⟨h.os,h.tape,h.output,h.size,h.block⟩
theorem rowS {r:Option Nat} {p:Addr} {u:Value} (h:w.grownBy W r) (hp:w.heap.size≤p.block):w.grownBy (W.setCell p u) r :=
  ⟨h.os,h.tape,h.output,by simpa [World.setCell] using h.size,fun k hk hn=>(Below.heap_setCell W p u k (by omega)).trans (h.block k hk hn)⟩
theorem rowX {r:Option Nat} (h:w.grownBy W r) (hb:w.heap.size≤b):w.grownBy (setBox W b vs) r :=
  ⟨h.os,h.tape,h.output,by rw [bx_size];exact h.size,fun k hk hn=>(bx_heap_ne (by omega)).trans (h.block k hk hn)⟩
theorem oA {r r':Option Nat} {o:Obj} (h:Onl r r' w W):Onl r r' w (W.alloc o) :=
  ⟨h.1,h.2.1,h.2.2.1,Nat.le_trans h.2.2.2.1 (by simp),fun k hk h1 h2=>(Below.heap_alloc W o k (Nat.lt_of_lt_of_le hk h.2.2.2.1)).trans (h.2.2.2.2 k hk h1 h2)⟩
theorem oD {r r':Option Nat} (h:Onl r r' w W):Onl r r' w W.drew:=h
theorem oS {r r':Option Nat} {p:Addr} {u:Value} (h:Onl r r' w W) (hp:w.heap.size≤p.block):Onl r r' w (W.setCell p u) :=
  ⟨h.1,h.2.1,h.2.2.1,by simpa [World.setCell] using h.2.2.2.1,fun k hk h1 h2=>(Below.heap_setCell W p u k (by omega)).trans (h.2.2.2.2 k hk h1 h2)⟩
theorem oX {r r':Option Nat} (h:Onl r r' w W) (hb:w.heap.size≤b):Onl r r' w (setBox W b vs) :=
  ⟨h.1,h.2.1,h.2.2.1,by rw [bx_size];exact h.2.2.2.1,fun k hk h1 h2=>(bx_heap_ne (by omega)).trans (h.2.2.2.2 k hk h1 h2)⟩
/- Loading and storing whole. -/
variable {P:Program} {T:TypeId}
theorem load_box (hA:∀ w,(isAgg T).run P w=.ok true w) (hS:∀ w,(sizeOf T).run P w=.ok n w) (h:okO n (hp w b)=true) :
    (loadVar T ⟨b,0,none⟩).run P w=.ok (.agg (cellsO (hp w b))) w:=by
  unfold hp at *
  obtain ⟨c,t,e,hc⟩:=okO_elim h
  have h1:(loadCells ⟨b,0,none⟩ c.toList.length).run P w=.ok c.toList.toArray w:=run_loadCells_list w ⟨b,0,none⟩ c.toList (fun j v hj=>by
    have e2:(⟨b,0,none⟩:Addr).add j=⟨b,j,none⟩:=by by_cases h0:j=0 <;> simp [Addr.add,h0]
    rw [e2]
    simp only [World.cell?,e]
    simpa using hj)
  simp only [Array.length_toList,hc] at h1
  rw [e,cellsO_cells]
  simp only [loadVar,Sem.run_bind,hA,hS,Result.andThen_ok,if_true,h1,Sem.run_pure]
theorem setCells_heap (b:Nat):∀ (l:List Value) (o:Nat) (w:World),w.setCells b o l={ w with heap:=w.heap.modify b (fun x=>match x with|.cells c t fr=>.cells ((l.zipIdx o).foldl (fun c p=>c.setIfInBounds p.2 p.1) c) t fr|x=>x) }
  | [],o,w=>by
    unfold World.setCells
    have e:w.heap.modify b (fun x=>match x with|.cells c t fr=>.cells ((([]:List Value).zipIdx o).foldl (fun c p=>c.setIfInBounds p.2 p.1) c) t fr|x=>x)=w.heap:=by
      apply Array.ext_getElem?
      intro k
      simp only [Array.getElem?_modify]
      by_cases e:b=k
      · subst e
        simp only [if_true]
        cases w.heap[b]? with
        | none=>rfl
        | some x=>cases x <;> rfl
      · simp [e]
    rw [e]
  | v :: l,o,w=>by
    unfold World.setCells
    rw [setCells_heap b l (o+1)]
    simp only [World.setCell]
    congr 1
    apply Array.ext_getElem?
    intro k
    simp only [Array.getElem?_modify]
    by_cases e:b=k
    · subst e
      simp only [if_true]
      cases w.heap[b]? with
      | none=>rfl
      | some x=>cases x <;> simp [List.zipIdx_cons]
    · simp [e]
theorem fold_get:∀ (l:List Value) (o:Nat) (c:Array Value) (k:Nat),o+l.length≤c.size→((l.zipIdx o).foldl (fun c p=>c.setIfInBounds p.2 p.1) c)[k]?=if o≤k∧k<o+l.length then l[k - o]? else c[k]?
  | [],o,c,k,_=>by
    have:¬ (o≤k∧k<o+([]:List Value).length):=by simp
    rw [if_neg this];rfl
  | v :: l,o,c,k,h=>by
    simp only [List.zipIdx_cons,List.foldl_cons,List.length_cons] at *
    rw [fold_get l (o+1) _ k (by rw [Array.size_setIfInBounds];omega)]
    by_cases e:k=o
    · subst e
      rw [if_neg (by omega),if_pos (by omega),Array.getElem?_setIfInBounds,if_pos rfl,if_pos (by omega)];simp
    · by_cases e2:o+1≤k∧k<o+1+l.length
      · rw [if_pos e2,if_pos (by omega)]
        obtain ⟨m,rfl⟩:∃ m,k=o+1+m:=⟨k - (o+1),by omega⟩
        rw [show o+1+m - (o+1)=m by omega,show o+1+m - o=m+1 by omega];rfl
      · rw [if_neg e2,if_neg (by omega),Array.getElem?_setIfInBounds,if_neg (fun h=>e h.symm)]
theorem fold_all (vs c:Array Value) (h:c.size=vs.size):((vs.toList.zipIdx 0).foldl (fun c p=>c.setIfInBounds p.2 p.1) c)=vs:=by
  apply Array.ext_getElem?
  intro k
  rw [fold_get _ _ _ _ (by simp;omega)]
  by_cases e:k<vs.size
  · rw [if_pos (by simp;omega)];simp
  · rw [if_neg (by simp;omega),Array.getElem?_eq_none (by omega),Array.getElem?_eq_none (by omega)]
theorem store_cells (h:okO n (hp w b)=true) (hv:vs.size=n) (h1:∀ v ∈ vs.toList,v.oneCell'=true) :
    (storeCells ⟨b,0,none⟩ vs.toList).run P w=.ok () (setBox w b vs):=by
  unfold hp at h
  obtain ⟨c,t,e,hc⟩:=okO_elim h
  have h2:=run_storeCells_cells (P:=P) b 0 vs.toList 0 w (fun j hj=>by
      have:j<c.size:=by rw [hc,← hv];simpa using hj
      simp [World.cell?,e,this]) (fun j hj=>by simp [World.frozen?,e]) h1
  have h3:w.setCells b (0+0) vs.toList=setBox w b vs:=by
    rw [setCells_heap]
    unfold setBox
    congr 1
    apply Array.ext_getElem?
    intro k
    simp only [Array.getElem?_modify]
    by_cases ek:b=k
    · subst ek
      simp only [if_true,e,Option.map_some,setBoxO]
      rw [fold_all vs c (by omega)]
    · simp [ek]
  rw [h3] at h2
  exact h2
theorem store_box (hS:∀ w,(sizeOf T).run P w=.ok n w) (h:okO n (hp w b)=true) (hv:vs.size=n) (h1:∀ v ∈ vs.toList,v.oneCell'=true) :
    (storeVar T ⟨b,0,none⟩ (.agg vs)).run P w=.ok () (setBox w b vs):=by
  have h2:=store_cells (P:=P) h hv h1
  simp only [storeVar,Sem.run_bind,hS,Result.andThen_ok,Value.cells,hv,ne_eq,not_true_eq_false,if_false]
  simpa using h2
/- Results that lie in memory. -/
variable {fn:Func} {p q u:Tmp} {S:TypeId} {tmps:Array Value} {a a':Addr} {x y:Value}
theorem res_c (h:fn.results=#[.cell p T]) (hp:tmps.getD p undef=.pointer (some a)) (hl:(loadVar T a).run P w=.ok x w):(results fn tmps).run P w=.ok x w:=by
  simp only [results,h]
  simp [Sem.run_bind,Result.andThen,asAddr] at *
  simp [hp,hl]
theorem res_ct (h:fn.results=#[.cell p T,.tmp u]) (hp:tmps.getD p undef=.pointer (some a)) (hl:(loadVar T a).run P w=.ok x w):(results fn tmps).run P w=.ok (.tuple #[x,tmps.getD u undef]) w:=by
  simp only [results,h]
  simp [Sem.run_bind,Result.andThen,asAddr] at *
  simp [hp,hl]
theorem res_cc (h:fn.results=#[.cell p T,.cell q S]) (hp:tmps.getD p undef=.pointer (some a)) (hl:(loadVar T a).run P w=.ok x w) (hp':tmps.getD q undef=.pointer (some a')) (hl':(loadVar S a').run P w=.ok y w):(results fn tmps).run P w=.ok (.tuple #[x,y]) w:=by
  simp only [results,h]
  simp [Sem.run_bind,Result.andThen,asAddr] at *
  simp [hp,hl,hp',hl']
theorem res_cct (h:fn.results=#[.cell p T,.cell q S,.tmp u]) (hp:tmps.getD p undef=.pointer (some a)) (hl:(loadVar T a).run P w=.ok x w) (hp':tmps.getD q undef=.pointer (some a')) (hl':(loadVar S a').run P w=.ok y w):(results fn tmps).run P w=.ok (.tuple #[x,y,tmps.getD u undef]) w:=by
  simp only [results,h]
  simp [Sem.run_bind,Result.andThen,asAddr] at *
  simp [hp,hl,hp',hl']
end Go.Proofs.YtmnpgkcdfielbaaGreat
set_option linter.unusedSimpArgs false
set_option linter.unusedVariables false
namespace Go.Proofs.YtmnpgkcdfielbaaGreat
open Go.RowKit
theorem infoHand:(Tryz.prog.info? 70).map (fun i=>(i.zero,i.size,i.bytes))=some (some (.agg (hvals Ha.zero)),14,112):=by kernel_rfl
theorem infoChan:(Tryz.prog.info? 34).map (fun i=>(i.zero,i.size,i.bytes))=some (some (.agg (cvals Ch.zero (.slice none 0 0) (.slice none 0 0))),6,80):=by kernel_rfl
theorem zeroHand (w:World):(zeroValue 70).run Tryz.prog w=.ok (.agg (hvals Ha.zero)) w:=by
  obtain ⟨i,hi,hz,_⟩:=info_parts infoHand
  have e:Tryz.prog.info? 70=some Tryz.t70:=by kernel_rfl
  obtain rfl:Tryz.t70=i:=by rw [e] at hi;exact Option.some.inj hi
  simp [zeroValue,go_sem,hz]
theorem zeroChan (w:World):(zeroValue 34).run Tryz.prog w=.ok (.agg (cvals Ch.zero (.slice none 0 0) (.slice none 0 0))) w:=by
  obtain ⟨i,hi,hz,_⟩:=info_parts infoChan
  have e:Tryz.prog.info? 34=some Tryz.t34:=by kernel_rfl
  obtain rfl:Tryz.t34=i:=by rw [e] at hi;exact Option.some.inj hi
  simp [zeroValue,go_sem,hz]
theorem aggHand (w:World):(isAgg 70).run Tryz.prog w=.ok true w:=by simp [isAgg,go_sem]
theorem aggChan (w:World):(isAgg 34).run Tryz.prog w=.ok true w:=by simp [isAgg,go_sem]
theorem szHand (w:World):(sizeOf 70).run Tryz.prog w=.ok 14 w:=by simp [go_sem]
theorem szChanT (w:World):(sizeOf 34).run Tryz.prog w=.ok 6 w:=by simp [go_sem]
variable {w:World} {b:Nat}
theorem loadHandV (h:okO 14 (hp w b)=true):(loadVar 70 ⟨b,0,none⟩).run Tryz.prog w=.ok (.agg (cellsO (hp w b))) w:=load_box aggHand szHand h
theorem loadChanV (h:okO 6 (hp w b)=true):(loadVar 34 ⟨b,0,none⟩).run Tryz.prog w=.ok (.agg (cellsO (hp w b))) w:=load_box aggChan szChanT h
theorem loadHand (h:okO 14 (hp w b)=true):(Instr.loadAt 70 (.pointer (some ⟨b,0,none⟩))).run Tryz.prog w=.ok (.agg (cellsO (hp w b))) w:=by
  simp only [Instr.loadAt,Instr.sureAddr,Sem.run_bind,Sem.run_pure,Result.andThen_ok,loadHandV h]
theorem loadChan (h:okO 6 (hp w b)=true):(Instr.loadAt 34 (.pointer (some ⟨b,0,none⟩))).run Tryz.prog w=.ok (.agg (cellsO (hp w b))) w:=by
  simp only [Instr.loadAt,Instr.sureAddr,Sem.run_bind,Sem.run_pure,Result.andThen_ok,loadChanV h]
theorem storeHand (x:Ha) (h:okO 14 (hp w b)=true):(Instr.storeAt 70 (.pointer (some ⟨b,0,none⟩)) (.agg (hvals x))).run Tryz.prog w=.ok () (setBox w b (hvals x)):=by
  simp only [Instr.storeAt,Instr.sureAddr,Sem.run_bind,Sem.run_pure,Result.andThen_ok]
  exact store_box szHand h rfl (by simp [hvals,Value.oneCell'])
theorem storeChan (c:Ch) (x y:Option Addr) (n p m q:Nat) (h:okO 6 (hp w b)=true):(Instr.storeAt 34 (.pointer (some ⟨b,0,none⟩)) (.agg (cvals c (.slice x n p) (.slice y m q)))).run Tryz.prog w=.ok () (setBox w b (cvals c (.slice x n p) (.slice y m q))):=by
  simp only [Instr.storeAt,Instr.sureAddr,Sem.run_bind,Sem.run_pure,Result.andThen_ok]
  exact store_box szChanT h rfl (by simp [cvals,Value.oneCell'])
theorem storeHandC (x:Ha) (h:okO 14 (hp w b)=true):(storeCells ⟨b,0,none⟩ (hvals x).toList).run Tryz.prog w=.ok () (setBox w b (hvals x)):=store_cells h rfl (by simp [hvals,Value.oneCell'])
theorem storeChanC (c:Ch) (x y:Option Addr) (n p m q:Nat) (h:okO 6 (hp w b)=true):(storeCells ⟨b,0,none⟩ (cvals c (.slice x n p) (.slice y m q)).toList).run Tryz.prog w=.ok () (setBox w b (cvals c (.slice x n p) (.slice y m q))):=store_cells h rfl (by simp [cvals,Value.oneCell'])
/-- Loading whole, as one word. -/
def LHand (x:Value):Sem Value:=Instr.loadAt 70 x
def VHand (x:Addr):Sem Value:=loadVar 70 x
theorem toLHand (x:Value):Instr.loadAt 70 x=LHand x:=by unfold LHand;simp
theorem toVHand (x:Addr):loadVar 70 x=VHand x:=by unfold VHand;simp
theorem runLHand (h:okO 14 (hp w b)=true):(LHand (.pointer (some ⟨b,0,none⟩))).run Tryz.prog w=.ok (.agg (cellsO (hp w b))) w:=loadHand h
theorem runVHand (h:okO 14 (hp w b)=true):(VHand ⟨b,0,none⟩).run Tryz.prog w=.ok (.agg (cellsO (hp w b))) w:=loadHandV h
/-- Loading whole, as one word. -/
def LChan (x:Value):Sem Value:=Instr.loadAt 34 x
def VChan (x:Addr):Sem Value:=loadVar 34 x
theorem toLChan (x:Value):Instr.loadAt 34 x=LChan x:=by unfold LChan;simp
theorem toVChan (x:Addr):loadVar 34 x=VChan x:=by unfold VChan;simp
theorem runLChan (h:okO 6 (hp w b)=true):(LChan (.pointer (some ⟨b,0,none⟩))).run Tryz.prog w=.ok (.agg (cellsO (hp w b))) w:=loadChan h
theorem runVChan (h:okO 6 (hp w b)=true):(VChan ⟨b,0,none⟩).run Tryz.prog w=.ok (.agg (cellsO (hp w b))) w:=loadChanV h
theorem ldHand (x:Ha) (h:hp w b=some (.cells (hvals x) 70)):(loadVar 70 ⟨b,0,none⟩).run Tryz.prog w=.ok (.agg (hvals x)) w:=by
  have:=loadHandV (w:=w) (b:=b) (by rw [h];simp [okO,hv_size])
  rw [h] at this
  exact this
theorem ldChan (c:Ch) (x y:Value) (h:hp w b=some (.cells (cvals c x y) 34)):(loadVar 34 ⟨b,0,none⟩).run Tryz.prog w=.ok (.agg (cvals c x y)) w:=by
  have:=loadChanV (w:=w) (b:=b) (by rw [h];simp [okO,cv_size])
  rw [h] at this
  exact this
attribute [go_sem] runLHand runVHand bx_size bx_heap_at bx_heap_lt bx_heap_gt bx_cell_at bx_cell_lt bx_cell_gt bx_frozen bx_alloc_at bx_alloc_past bx_twice bx_setCell bx_drew hp_drew hp_alloc_at hp_alloc_past hp_set_at hp_set_lt hp_set_gt okO_cells cellsO_cells setBoxO_cells setCellO_cells Option.map_some lt_2 lt_3 lt_4 lt_5 hv_ne hv_size hv_get0 hv_set0 hv_get1 hv_set1 hv_get2 hv_set2 hv_get3 hv_set3 hv_get4 hv_set4 hv_get5 hv_set5 hv_get6 hv_set6 hv_get7 hv_set7 hv_get8 hv_set8 hv_get9 hv_set9 hv_get10 hv_set10 hv_get11 hv_set11 hv_get12 hv_set12 hv_get13 hv_set13
attribute [go_sem] runLChan runVChan cv_ne cv_size cv_get0 cv_set0 cv_get1 cv_set1 cv_get2 cv_set2 cv_get3 cv_set3 cv_get4 cv_set4 cv_get5 cv_set5
end Go.Proofs.YtmnpgkcdfielbaaGreat
set_option linter.unusedSimpArgs false
set_option linter.unusedVariables false
namespace Go.Proofs.YtmnpgkcdfielbaaGreat
open Go.RowKit
set_option maxHeartbeats 400000 in
theorem l1In_any (n m k:Int) (w:World):Calls Tryz.prog 36 #[.int .i64 n,.int .i64 m,.int .i64 k] w fun e w'=>e=.returned (.bool (inB n m k))∧w=w':=by
  go_enter Tryz.func36,Tryz.ntmps36
  go_wp2
  all_goals go_ret
  · exact ⟨ret_bool (inB_lo ‹_›),rfl⟩
  · exact ⟨ret_bool (inB_no (.inl ‹_›)).symm,rfl⟩
set_option maxHeartbeats 400000 in
theorem l1State_any (n:Int) (w:World):Calls Tryz.prog 57 #[.int .i64 n] w fun r w'=>r=.returned (.bool (inB n 0 10))∧w=w':=by
  go_enter Tryz.func57,Tryz.ntmps57
  go_wp2_with (go_at_call 36;refine (l1In_any _ _ _ _).mono ?_;rintro _ _ ⟨rfl,rfl⟩)
  go_ret
  exact ⟨rfl,rfl⟩
set_option maxHeartbeats 400000 in
theorem l1Elem_any (n:Int) (w:World):Calls Tryz.prog 37 #[.int .i64 n] w fun r w'=>r=.returned (.bool (inB n 0 999))∧w=w':=by
  go_enter Tryz.func37,Tryz.ntmps37
  go_wp2_with (go_at_call 36;refine (l1In_any _ _ _ _).mono ?_;rintro _ _ ⟨rfl,rfl⟩)
  go_ret
  exact ⟨rfl,rfl⟩
set_option maxHeartbeats 400000 in
theorem sCellOk_any (s e t:Int) (w:World):Calls Tryz.prog 54 #[.agg #[.int .i64 s,.int .i64 e,.int .i64 t]] w fun r w'=>r=.returned (.bool (cellB s e t))∧Below w.heap.size w w':=by
  go_enter Tryz.func54,Tryz.ntmps54
  go_wp2_with (first|(go_at_call 57;refine (l1State_any _ _).mono ?_;rintro _ _ ⟨rfl,rfl⟩)|(go_at_call 37;refine (l1Elem_any _ _).mono ?_;rintro _ _ ⟨rfl,rfl⟩)|(go_at_call 36;refine (l1In_any _ _ _ _).mono ?_;rintro _ _ ⟨rfl,rfl⟩))
  all_goals go_ret
  all_goals refine ⟨ret_bool ?_,by exact zB⟩
  · exact cellB_3 ‹_› ‹_›
  · exact cellB_2 ‹_›
  · exact cellB_1 ‹_›
end Go.Proofs.YtmnpgkcdfielbaaGreat
set_option linter.unusedSimpArgs false
set_option linter.unusedVariables false
namespace Go.Proofs.YtmnpgkcdfielbaaGreat
open Go.RowKit
set_option maxRecDepth 100000 in
set_option maxHeartbeats 400000 in
theorem sCallOk_any (k e:Int) (w:World):Calls Tryz.prog 56 #[.agg #[.int .i64 k,.int .i64 e]] w fun r w'=>r=.returned (.bool (callOk k e))∧Below w.heap.size w w':=by
  go_enter Tryz.func56,Tryz.ntmps56
  go_wp2_with (go_at_call 37;refine (l1Elem_any _ _).mono ?_;rintro _ _ ⟨rfl,rfl⟩)
  all_goals go_ret
  all_goals exact ⟨ret_bool (by simp_all [callOk]),by exact zB⟩
set_option maxRecDepth 100000 in
set_option maxHeartbeats 400000 in
theorem sReplyOk_any (k e x:Int) (w:World):Calls Tryz.prog 35 #[.agg #[.int .i64 k,.int .i64 e],.int .i64 x] w fun r w'=>r=.returned (.bool (replyOk k e x))∧Below w.heap.size w w':=by
  go_enter Tryz.func35,Tryz.ntmps35
  go_wp2_with (first|(go_at_call 56;refine (sCallOk_any _ _ _).mono ?_;rintro _ w1 ⟨rfl,hbw1⟩;have hBw1:Below w.heap.size w w1:=bT (by exact zB) hbw1;have hsw1:=hbw1.size;(try (simp at hsw1));have:=fun o=>hbw1.cell (p:=⟨w.heap.size,o,none⟩) (by ((try simp);(try omega)));have:=fun o=>hbw1.frozen (p:=⟨w.heap.size,o,none⟩) (by ((try simp);(try omega)));have:w.heap.size<w1.heap.size:=(by omega);have:w.heap.size≤w1.heap.size:=(by omega);have:w.heap.size≤w1.heap.size+1:=(by omega))|(go_at_call 36;refine (l1In_any _ _ _ _).mono ?_;rintro _ _ ⟨rfl,rfl⟩))
  all_goals go_ret
  all_goals exact ⟨ret_bool (by simp_all [replyOk]),by exact zB⟩
set_option maxRecDepth 100000 in
theorem l4None_any (k e:Int) (w:World):Calls Tryz.prog 55 #[.agg #[.int .i64 k,.int .i64 e]] w fun r w'=>r=.returned (.bool (noCall k e))∧Below w.heap.size w w':=by
  go_enter Tryz.func55,Tryz.ntmps55
  go_wp2
  all_goals go_ret
  all_goals exact ⟨ret_bool (by simp_all [noCall]),by exact zB⟩
end Go.Proofs.YtmnpgkcdfielbaaGreat
set_option linter.unusedSimpArgs false
set_option linter.unusedVariables false
namespace Go.Proofs.YtmnpgkcdfielbaaGreat
open Go.RowKit
set_option maxHeartbeats 400000 in
theorem l2Count_any (n:Int) (w:World):Calls Tryz.prog 53 #[.int .i64 n] w fun r w'=>r=.returned (.bool (inB n 0 40))∧w=w':=by
  go_enter Tryz.func53,Tryz.ntmps53
  go_wp2_with (go_at_call 36;refine (l1In_any _ _ _ _).mono ?_;rintro _ _ ⟨rfl,rfl⟩)
  go_ret
  exact ⟨rfl,rfl⟩
/-- Where the head of a channel is not right. -/
theorem head_no (cap sent got fin:Int) (cells:List C3) (words:List Int) (h:chanHead ⟨cap,sent,got,fin,cells,words⟩=false):false=chanOk ⟨cap,sent,got,fin,cells,words⟩:=by simp [chanOk,h]
theorem head_yes {cap sent got fin:Int} {cells:List C3} {words:List Int} (h:chanHead ⟨cap,sent,got,fin,cells,words⟩=true) :
    inB cap 0 4=true∧inB sent 0 40=true∧inB got 0 40=true∧inB fin 0 40=true∧cells.length=40∧words.length≤80:=by
  simpa [chanHead] using h
theorem sChanOk_no (cap sent got fin:Int) (cells:List C3) (words:List Int) (a b:Option Addr) (p q:Nat) (w:World) (h:chanHead ⟨cap,sent,got,fin,cells,words⟩=false) :
    Calls Tryz.prog 31 #[.agg #[.int .i64 cap,.int .i64 sent,.int .i64 got,.int .i64 fin,.slice a cells.length p,.slice b words.length q]] w fun r w'=>r=.returned (.bool (chanOk ⟨cap,sent,got,fin,cells,words⟩))∧Below w.heap.size w w':=by
  rw [← head_no _ _ _ _ _ _ h]
  have H:=Lib.hid h
  clear h
  go_enter Tryz.func31,Tryz.ntmps31
  go_wp2_with (first|(go_at_call 36;refine (l1In_any _ _ _ _).mono ?_;rintro _ _ ⟨rfl,rfl⟩)|(go_at_call 53;refine (l2Count_any _ _).mono ?_;rintro _ _ ⟨rfl,rfl⟩))
  all_goals first|(go_ret;exact ⟨rfl,by exact zB⟩)|skip
  exfalso
  have h:=H.out
  simp [chanHead, *] at h
  omega
theorem chan_bad1 {cap sent got fin:Int} {cells:List C3} {words:List Int} {k:Nat} {c:C3} (hk:k<cells.length) (hc:cells.getD k ⟨0,0,0⟩=c) (h:cellFits words.length c=false):false=chanOk ⟨cap,sent,got,fin,cells,words⟩:=by
  have:cells.all (cellFits words.length)=false:=by
    rw [List.all_eq_false]
    refine ⟨cells[k],List.getElem_mem hk,?_⟩
    rw [← hc] at h
    simpa [List.getD,List.getElem?_eq_getElem hk] using h
  simp [chanOk,this]
theorem chan_bad2 {cap sent got fin:Int} {cells:List C3} {words:List Int} {k:Nat} {x:Int} (hk:k<words.length) (hc:words.getD k 0=x) (h:inB x 0 2=false):false=chanOk ⟨cap,sent,got,fin,cells,words⟩:=by
  have:words.all (fun x=>inB x 0 2)=false:=by
    rw [List.all_eq_false]
    refine ⟨words[k],List.getElem_mem hk,?_⟩
    rw [← hc] at h
    simpa [List.getD,List.getElem?_eq_getElem hk] using h
  simp [chanOk,this]
theorem words_snoc {words:List Int} {k:Nat} {x:Int} (hk:k<words.length) (hc:words.getD k 0=x) (h:(words.take k).all (fun x=>inB x 0 2)=true) (h1:inB x 0 2=true):(words.take (k+1)).all (fun x=>inB x 0 2)=true:=by
  have e:words.take (k+1)=words.take k ++ [x]:=by
    rw [List.take_succ_eq_append_getElem hk,← hc];simp [List.getD,List.getElem?_eq_getElem hk]
  rw [e,List.all_append,h];simp [h1]
def fitsAt (words:List Int) (cells:List C3) (k:Nat):Prop:=(cells.take k).all (cellFits words.length)=true
theorem chan_all {cap sent got fin:Int} {cells:List C3} {words:List Int} (h:chanHead ⟨cap,sent,got,fin,cells,words⟩=true) (h1:fitsAt words cells cells.length) (h2:(words.take words.length).all (fun x=>inB x 0 2)=true):true=chanOk ⟨cap,sent,got,fin,cells,words⟩:=by
  unfold fitsAt at h1
  rw [List.take_length] at h1 h2
  unfold chanOk
  rw [h,h1,h2];rfl
theorem fits_snoc {words:List Int} {cells:List C3} {k:Nat} {c:C3} (hk:k<cells.length) (hc:cells.getD k ⟨0,0,0⟩=c) (h:fitsAt words cells k) (h1:cellFits words.length c=true):fitsAt words cells (k+1):=by
  unfold fitsAt at *
  rw [take_snocC cells k hk,hc,List.all_append,h];simp [h1]
set_option maxRecDepth 100000 in
set_option linter.unusedSimpArgs false in
set_option maxHeartbeats 2000000 in
theorem sChanOk_yes (cap sent got fin:Int) (cells:List C3) (words:List Int) (a b:Option Addr) (p q:Nat) (w:World) (h1:Seg w w.heap.size a cells.length 3 (cellF cells)) (h2:Seg w w.heap.size b words.length 1 (intF words)) (h:chanHead ⟨cap,sent,got,fin,cells,words⟩=true) :
    Calls Tryz.prog 31 #[.agg #[.int .i64 cap,.int .i64 sent,.int .i64 got,.int .i64 fin,.slice a cells.length p,.slice b words.length q]] w fun r w'=>r=.returned (.bool (chanOk ⟨cap,sent,got,fin,cells,words⟩))∧Below w.heap.size w w':=by
  obtain ⟨i1,i2,i3,i4,i5,i6⟩:=head_yes h
  have hl:((cells.length:Int) != 40)=false:=by simp;omega
  have hl0:cells.length≤40:=by omega
  have hw:decide (80<(words.length:Int))=false:=by simp;omega
  have H1:=Lib.hid h1
  have H2:=Lib.hid h2
  have HH:=Lib.hid h
  have I5:=Lib.hid i5
  clear h1 h2 h i5
  obtain ⟨b1,o1,rfl,hb1,hc1⟩:∃ b o,a=some ⟨b,o,none⟩∧b<w.heap.size∧Hid (∀ i j,i<cells.length→j<3→w.cell? ⟨b,o+i*3+j,none⟩=some (cellF cells i j)):=by
    rcases H1.out with h0|h0
    · exact absurd h0 (by have:=I5.out;omega)
    · exact h0
  go_enter Tryz.func31,Tryz.ntmps31
  go_wp2_with (first|(go_at_call 36;refine (l1In_any _ _ _ _).mono ?_;rintro _ _ ⟨rfl,rfl⟩)|(go_at_call 53;refine (l2Count_any _ _).mono ?_;rintro _ _ ⟨rfl,rfl⟩))
  go_loopw [3] (fun i wr=>∃ k:Nat,k≤cells.length∧i=.int .i64 k∧fitsAt words cells k∧(∀ o,wr.cell? ⟨w.heap.size,o,none⟩=#[Value.int .i64 cap,.int .i64 sent,.int .i64 got,.int .i64 fin,.slice (some ⟨b1,o1,none⟩) cells.length p,.slice b words.length q][o]?)∧w.heap.size<wr.heap.size∧Below w.heap.size w wr) (fun i _=>cells.length - (intOf i).toNat)
  case atStart=>exact ⟨0,Nat.zero_le _,rfl,rfl,fun o=>by simp,by simp,by exact zB⟩
  case round =>
    obtain ⟨k,hk,rfl,hfit,hbx,hlt1,hB⟩:=hrel
    by_cases hlt:k<cells.length
    · have c0:=(hB.cell (p:=⟨b1,o1+k*3+0,none⟩) hb1).trans (hc1.out k 0 hlt (by omega))
      have c1:=(hB.cell (p:=⟨b1,o1+k*3+1,none⟩) hb1).trans (hc1.out k 1 hlt (by omega))
      have c2:=(hB.cell (p:=⟨b1,o1+k*3+2,none⟩) hb1).trans (hc1.out k 2 hlt (by omega))
      simp only [cellF,C3.val,Nat.add_zero] at c0 c1 c2
      generalize hcg:cells.getD k ⟨0,0,0⟩=c at c0 c1 c2
      have HC:=Lib.hid hcg
      clear hcg
      have x4:=hbx 4
      have x5:=hbx 5
      simp at x4 x5
      have hk0:(0:Int)≤(k:Int):=by omega
      have hk1:(k:Int)<(cells.length:Int):=by omega
      by_cases hok:cellB c.s c.e c.t=true
      · go_wp2_with fail
        go_region_held3 (fun w'=>w'.cell? ⟨w.heap.size,4,none⟩=some (.slice (some ⟨b1,o1,none⟩) cells.length p)∧w'.cell? ⟨w.heap.size,5,none⟩=some (.slice b words.length q)∧w'.cell? ⟨b1,o1+k*3,none⟩=some (.int .i64 c.s)∧w'.cell? ⟨b1,o1+k*3+1,none⟩=some (.int .i64 c.e)∧w'.cell? ⟨b1,o1+k*3+2,none⟩=some (.int .i64 c.t))
          (first|(simp [*,go_sem]))
          (first|(go_at_call 54;refine (sCellOk_any _ _ _ _).mono ?_;rintro _ w7 ⟨rfl,hb7⟩;have hB7:Below w.heap.size w w7:=bT (by exact zB) hb7;have:=hb7.cell (p:=⟨w.heap.size,4,none⟩) (by simp;omega);have:=hb7.cell (p:=⟨w.heap.size,5,none⟩) (by simp;omega);have:=hb7.cell (p:=⟨b1,o1+k*3,none⟩) (by simp;omega);have:=hb7.cell (p:=⟨b1,o1+k*3+1,none⟩) (by simp;omega);have:=hb7.cell (p:=⟨b1,o1+k*3+2,none⟩) (by simp;omega);have hx7:=fun o=>(hb7.cell (p:=⟨w.heap.size,o,none⟩) (by simp;omega)).trans (hbx o);have hs7:=hb7.size;simp at hs7))
        by_cases hct:(words.length:Int)<c.t
        · go_wp2
          go_ret
          exact ⟨ret_bool (chan_bad1 hlt HC.out (by simp [cellFits,okC,hok];omega)),hB7⟩
        · go_wp2
          go_roundw
          case rel=>exact ⟨k+1,by omega,by go_num,fits_snoc hlt HC.out hfit (by simp [cellFits,okC,hok];omega),hx7,by omega,hB7⟩
          case measure=>simp [intOf];omega
      · have hok2:cellB c.s c.e c.t=false:=by simpa using hok
        clear hok x5
        go_wp2_with fail
        refine wp_region_held_drew (S:=fun w'=>w'.cell? ⟨w.heap.size,4,none⟩=some (.slice (some ⟨b1,o1,none⟩) cells.length p)∧w'.cell? ⟨b1,o1+k*3,none⟩=some (.int .i64 c.s)∧w'.cell? ⟨b1,o1+k*3+1,none⟩=some (.int .i64 c.e)∧w'.cell? ⟨b1,o1+k*3+2,none⟩=some (.int .i64 c.t)) (by kernel_rfl) (by simp [*,go_sem]) (fun hS0=>?_)
        refine wpAnyH_take (i:=0) (oi:=⟨some 46,_,_,_,_,_⟩) (v:=?_) rfl (by kernel_rfl) (by kernel_rfl) (by kernel_rfl) (fun _ _ _ h=>h) (Or.inl ⟨by rfl,?_⟩) (by assumption) ?_;rotate_left;(focus (intro w' hSw;(try dsimp only at hSw);go_simp;(try with_reducible rfl)));(try rotate_left);(try simp only [Act.put,List.setIfInBounds_toArray,List.set_cons_zero,List.set_cons_succ])
        refine wpAnyH_take (i:=1) (oi:=⟨some 47,_,_,_,_,_⟩) (v:=?_) rfl (by kernel_rfl) (by kernel_rfl) (by kernel_rfl) (fun _ _ _ h=>h) (Or.inl ⟨by rfl,?_⟩) (by assumption) ?_;rotate_left;(focus (intro w' hSw;(try dsimp only at hSw);go_simp;(try with_reducible rfl)));(try rotate_left);(try simp only [Act.put,List.setIfInBounds_toArray,List.set_cons_zero,List.set_cons_succ])
        refine wpAnyH_take (i:=2) (oi:=⟨some 48,_,_,_,_,_⟩) (v:=?_) rfl (by kernel_rfl) (by kernel_rfl) (by kernel_rfl) (fun _ _ _ h=>h) (Or.inl ⟨by rfl,?_⟩) (by assumption) ?_;rotate_left;(focus (intro w' hSw;(try dsimp only at hSw);go_simp;(try with_reducible rfl)));(try rotate_left);(try simp only [Act.put,List.setIfInBounds_toArray,List.set_cons_zero,List.set_cons_succ])
        refine wpAnyH_take (i:=3) (oi:=⟨some 49,_,_,_,_,_⟩) (v:=?_) rfl (by kernel_rfl) (by kernel_rfl) (by kernel_rfl) (fun _ _ _ h=>h) (Or.inl ⟨by rfl,?_⟩) (by assumption) ?_;rotate_left;(focus (intro w' hSw;(try dsimp only at hSw);go_simp;(try with_reducible rfl)));(try rotate_left);(try simp only [Act.put,List.setIfInBounds_toArray,List.set_cons_zero,List.set_cons_succ])
        refine wpAnyH_take (i:=4) (oi:=⟨some 50,_,_,_,_,_⟩) (v:=?_) rfl (by kernel_rfl) (by kernel_rfl) (by kernel_rfl) (fun _ _ _ h=>h) (Or.inl ⟨by rfl,?_⟩) (by assumption) ?_;rotate_left;(focus (intro w' hSw;(try dsimp only at hSw);go_simp;(try with_reducible rfl)));(try rotate_left);(try simp only [Act.put,List.setIfInBounds_toArray,List.set_cons_zero,List.set_cons_succ])
        refine wpAnyH_ready (rs:=[5]) (by kernel_rfl) (by simp) ?_
        refine AllReadyH.cons (o:=⟨some 51,_,_,_,_,_⟩) rfl (fun K hK=>?_) AllReadyH.nil
        go_simp
        go_at_call 54
        refine (sCellOk_any _ _ _ _).mono ?_
        rintro _ w7 ⟨rfl,hb7⟩
        have hB7:Below w.heap.size w w7:=bT (by exact zB) hb7
        rw [hok2]
        refine hK.out _ _ ?_ (fun hS7=>?_)
        · refine ⟨(hb7.cell (by simp;omega)).trans x4,(hb7.cell (by simp;omega)).trans c0,(hb7.cell (by simp;omega)).trans c1,(hb7.cell (by simp;omega)).trans c2⟩
        clear hK
        (try simp only [Act.put,List.setIfInBounds_toArray,List.set_cons_zero,List.set_cons_succ])
        refine wpAnyH_take (i:=6) (oi:=⟨some 52,_,_,_,_,_⟩) (v:=?_) rfl (by kernel_rfl) (by kernel_rfl) (by kernel_rfl) (fun _ _ _ h=>h) (Or.inl ⟨by rfl,?_⟩) (by assumption) ?_;rotate_left;(focus (intro w' hSw;(try dsimp only at hSw);go_simp;(try with_reducible rfl)));(try rotate_left);(try simp only [Act.put,List.setIfInBounds_toArray,List.set_cons_zero,List.set_cons_succ])
        refine wpAnyH_take (i:=7) (oi:=⟨some 53,_,_,_,_,_⟩) (v:=?_) rfl (by kernel_rfl) (by kernel_rfl) (by kernel_rfl) (fun _ _ _ h=>h) (Or.inl ⟨by rfl,?_⟩) (by assumption) ?_;rotate_left;(focus (intro w' hSw;(try dsimp only at hSw);go_simp;(try with_reducible rfl)));(try rotate_left);(try simp only [Act.put,List.setIfInBounds_toArray,List.set_cons_zero,List.set_cons_succ])
        refine wpAnyH_take (i:=8) (oi:=⟨some 54,_,_,_,_,_⟩) (v:=undef) rfl (by kernel_rfl) (by kernel_rfl) (by kernel_rfl) (fun _ _ _ h=>h) (Or.inr ⟨by rfl,rfl⟩) (by assumption) ?_;(try simp only [Act.put,List.setIfInBounds_toArray,List.set_cons_zero,List.set_cons_succ])
        refine wpAnyH_take (i:=9) (oi:=⟨some 55,_,_,_,_,_⟩) (v:=undef) rfl (by kernel_rfl) (by kernel_rfl) (by kernel_rfl) (fun _ _ _ h=>h) (Or.inr ⟨by rfl,rfl⟩) (by assumption) ?_;(try simp only [Act.put,List.setIfInBounds_toArray,List.set_cons_zero,List.set_cons_succ])
        refine wpAnyH_take (i:=10) (oi:=⟨some 56,_,_,_,_,_⟩) (v:=undef) rfl (by kernel_rfl) (by kernel_rfl) (by kernel_rfl) (fun _ _ _ h=>h) (Or.inr ⟨by rfl,rfl⟩) (by assumption) ?_;(try simp only [Act.put,List.setIfInBounds_toArray,List.set_cons_zero,List.set_cons_succ])
        refine wpAnyH_take (i:=11) (oi:=⟨some 57,_,_,_,_,_⟩) (v:=undef) rfl (by kernel_rfl) (by kernel_rfl) (by kernel_rfl) (fun _ _ _ h=>h) (Or.inr ⟨by rfl,rfl⟩) (by assumption) ?_;(try simp only [Act.put,List.setIfInBounds_toArray,List.set_cons_zero,List.set_cons_succ])
        refine wpAnyH_take (i:=12) (oi:=⟨some 58,_,_,_,_,_⟩) (v:=undef) rfl (by kernel_rfl) (by kernel_rfl) (by kernel_rfl) (fun _ _ _ h=>h) (Or.inr ⟨by rfl,rfl⟩) (by assumption) ?_;(try simp only [Act.put,List.setIfInBounds_toArray,List.set_cons_zero,List.set_cons_succ])
        refine wpAnyH_take (i:=13) (oi:=⟨some 59,_,_,_,_,_⟩) (v:=undef) rfl (by kernel_rfl) (by kernel_rfl) (by kernel_rfl) (fun _ _ _ h=>h) (Or.inr ⟨by rfl,rfl⟩) (by assumption) ?_;(try simp only [Act.put,List.setIfInBounds_toArray,List.set_cons_zero,List.set_cons_succ])
        refine wpAnyH_take (i:=14) (oi:=⟨some 60,_,_,_,_,_⟩) (v:=undef) rfl (by kernel_rfl) (by kernel_rfl) (by kernel_rfl) (fun _ _ _ h=>h) (Or.inr ⟨by rfl,rfl⟩) (by assumption) ?_;(try simp only [Act.put,List.setIfInBounds_toArray,List.set_cons_zero,List.set_cons_succ])
        refine wpAnyH_take (i:=15) (oi:=⟨some 61,_,_,_,_,_⟩) (v:=undef) rfl (by kernel_rfl) (by kernel_rfl) (by kernel_rfl) (fun _ _ _ h=>h) (Or.inr ⟨by rfl,rfl⟩) (by assumption) ?_;(try simp only [Act.put,List.setIfInBounds_toArray,List.set_cons_zero,List.set_cons_succ])
        refine wpAnyH_take (i:=16) (oi:=⟨some 62,_,_,_,_,_⟩) (v:=undef) rfl (by kernel_rfl) (by kernel_rfl) (by kernel_rfl) (fun _ _ _ h=>h) (Or.inr ⟨by rfl,rfl⟩) (by assumption) ?_;(try simp only [Act.put,List.setIfInBounds_toArray,List.set_cons_zero,List.set_cons_succ])
        refine wpAnyH_take (i:=17) (oi:=⟨some 63,_,_,_,_,_⟩) (v:=undef) rfl (by kernel_rfl) (by kernel_rfl) (by kernel_rfl) (fun _ _ _ h=>h) (Or.inr ⟨by rfl,rfl⟩) (by assumption) ?_;(try simp only [Act.put,List.setIfInBounds_toArray,List.set_cons_zero,List.set_cons_succ])
        refine wpAnyH_take (i:=18) (oi:=⟨some 64,_,_,_,_,_⟩) (v:=?_) rfl (by kernel_rfl) (by kernel_rfl) (by kernel_rfl) (fun _ _ _ h=>h) (Or.inl ⟨by rfl,?_⟩) (by assumption) ?_;rotate_left;(focus (intro w' hSw;(try dsimp only at hSw);go_simp;(try with_reducible rfl)));(try rotate_left);(try simp only [Act.put,List.setIfInBounds_toArray,List.set_cons_zero,List.set_cons_succ])
        refine wpAnyH_done (by kernel_rfl) ?_ _
        go_wp2
        go_ret
        exact ⟨ret_bool (chan_bad1 hlt HC.out (by simp [cellFits,okC,hok2])),hB7⟩
    · have:k=cells.length:=by omega
      subst this
      go_wp2
      go_loopw [4] (fun i wr=>∃ k:Nat,k≤words.length∧i=.int .i64 k∧Hid ((words.take k).all (fun x=>inB x 0 2)=true)∧(∀ o,wr.cell? ⟨w.heap.size,o,none⟩=#[Value.int .i64 cap,.int .i64 sent,.int .i64 got,.int .i64 fin,.slice (some ⟨b1,o1,none⟩) cells.length p,.slice b words.length q][o]?)∧w.heap.size<wr.heap.size∧Below w.heap.size w wr) (fun i _=>words.length - (intOf i).toNat)
      case atStart=>exact ⟨0,Nat.zero_le _,rfl,rfl,hbx,hlt1,hB⟩
      case round =>
        clear hbx hlt1 hB hk
        obtain ⟨k,hk,rfl,hall,hbx,hlt1,hB⟩:=hrel
        have x5:=hbx 5
        simp at x5
        by_cases hlt:k<words.length
        · obtain h0|⟨b2,o2,rfl,hb2,hc2⟩:=H2.out
          · omega
          have c0:=(hB.cell (p:=⟨b2,o2+k*1+0,none⟩) hb2).trans (hc2 k 0 hlt (by omega))
          simp only [intF,Nat.add_zero,Nat.mul_one] at c0
          clear hc2
          generalize hcg:words.getD k 0=x at c0
          have HC:=Lib.hid hcg
          clear hcg
          go_wp2_with (go_at_call 36;refine (l1In_any _ _ _ _).mono ?_;rintro _ _ ⟨rfl,rfl⟩)
          · go_ret
            exact ⟨ret_bool (chan_bad2 hlt HC.out (not_true ‹_›)),hB⟩
          · go_roundw
            case rel=>exact ⟨k+1,by omega,by go_num,words_snoc hlt HC.out hall.out (not_false ‹_›),hbx,hlt1,hB⟩
            case measure=>simp [intOf];omega
        · have:k=words.length:=by omega
          subst this
          go_wp2
          go_ret
          exact ⟨ret_bool (chan_all HH.out hfit hall.out),hB⟩
theorem sChanOk_any (c:Ch) (a b:Option Addr) (p q:Nat) (w:World) (h1:Seg w w.heap.size a c.cells.length 3 (cellF c.cells)) (h2:Seg w w.heap.size b c.words.length 1 (intF c.words)) :
    Calls Tryz.prog 31 #[.agg #[.int .i64 c.cap,.int .i64 c.sent,.int .i64 c.got,.int .i64 c.fin,.slice a c.cells.length p,.slice b c.words.length q]] w fun r w'=>r=.returned (.bool (chanOk c))∧Below w.heap.size w w':=by
  obtain ⟨cap,sent,got,fin,cells,words⟩:=c
  by_cases h:chanHead ⟨cap,sent,got,fin,cells,words⟩=true
  · exact sChanOk_yes cap sent got fin cells words a b p q w h1 h2 h
  · exact sChanOk_no cap sent got fin cells words a b p q w (by simpa using h)
end Go.Proofs.YtmnpgkcdfielbaaGreat
set_option linter.unusedSimpArgs false
set_option linter.unusedVariables false
namespace Go.Proofs.YtmnpgkcdfielbaaGreat
open Go.RowKit
attribute [local go_sem ↓] zeroHand toLHand toVHand storeHand storeHandC
set_option maxRecDepth 100000 in
set_option maxHeartbeats 1000000 in
theorem sHandOk_any (h:Ha) (w:World):Calls Tryz.prog 33 #[.agg (hvals h)] w fun r w'=>r=.returned (.bool (handOk h))∧Below w.heap.size w w':=by
  go_enter Tryz.func33,Tryz.ntmps33
  go_wp2_with (first|(go_at_call 36;refine (l1In_any _ _ _ _).mono ?_;rintro _ _ ⟨rfl,rfl⟩)|(go_at_call 57;refine (l1State_any _ _).mono ?_;rintro _ _ ⟨rfl,rfl⟩)|(go_at_call 37;refine (l1Elem_any _ _).mono ?_;rintro _ _ ⟨rfl,rfl⟩)|(go_at_call 53;refine (l2Count_any _ _).mono ?_;rintro _ _ ⟨rfl,rfl⟩)|(go_at_call 56;refine bHit w (by exact zB) fun bb=>?_;refine (sCallOk_any _ _ _).mono ?_;rintro _ w1 ⟨rfl,hbw1⟩;have hCw1:Below w.heap.size w w1:=bT bb hbw1;have hsw1:=hbw1.size;(try simp at hsw1);have zz:=hQ hbw1 (b:=w.heap.size);(try simp [go_sem] at zz);(try clear z_w x_w f_w l_w);have z_w:=zz;clear zz;obtain ⟨x_w,f_w,l_w⟩:=bO z_w;clear hbw1 bb)|(go_at_call 55;refine bHit w (by exact zB) fun bb=>?_;refine (l4None_any _ _ _).mono ?_;rintro _ w1 ⟨rfl,hbw1⟩;have hCw1:Below w.heap.size w w1:=bT bb hbw1;have hsw1:=hbw1.size;(try simp at hsw1);have zz:=hQ hbw1 (b:=w.heap.size);(first|simp [go_sem,z_w,l_w] at zz|simp [go_sem] at zz|skip);(try clear z_w x_w f_w l_w);have z_w:=zz;clear zz;obtain ⟨x_w,f_w,l_w⟩:=bO z_w;clear hbw1 bb))
  all_goals go_ret
  all_goals exact ⟨ret_bool (by simp_all [handOk,handA,handB,handC]),by exact zB⟩
set_option maxRecDepth 100000 in
theorem sResting_any (x o:Int) (w:World):Calls Tryz.prog 84 #[.int .i64 x,.int .i64 o] w fun r w'=>r=.returned (.agg (hvals (resting x o)))∧Below w.heap.size w w':=by
  go_enter Tryz.func84,Tryz.ntmps84
  go_wp2
  refine bodyPost_ret (res_c Tryz.results84 rfl (ldHand (resting x o) (by simp [go_sem] <;> rfl))) rfl ⟨rfl,by exact zB⟩
set_option maxRecDepth 100000 in
theorem l5Begin_any (k e b:Int) (w:World):Calls Tryz.prog 108 #[.agg #[.int .i64 k,.int .i64 e],.int .i64 b] w fun r w'=>r=.returned (.agg (hvals (begun k e b)))∧Below w.heap.size w w':=by
  by_cases h:k=2
  · subst h
    go_enter Tryz.func108,Tryz.ntmps108
    go_wp2
    refine bodyPost_ret (res_c Tryz.results108 rfl (ldHand (begun 2 e b) (by simp [go_sem] <;> rfl))) rfl ⟨rfl,by exact zB⟩
  · have e1:begun k e b=⟨1,k,e,0,0,0,0,0,0,0,0,b,0,0⟩:=by simp [begun,h]
    rw [e1]
    have h2:(k == 2)=false:=by simpa using h
    clear h
    go_enter Tryz.func108,Tryz.ntmps108
    go_wp2
    refine bodyPost_ret (res_c Tryz.results108 rfl (ldHand ⟨1,k,e,0,0,0,0,0,0,0,0,b,0,0⟩ (by simp [go_sem] <;> rfl))) rfl ⟨rfl,by exact zB⟩
set_option maxRecDepth 100000 in
theorem l6Anew_any (h:Ha) (w:World):Calls Tryz.prog 94 #[.agg (hvals h)] w fun r w'=>r=.returned (.agg (hvals (begun h.code h.elem h.beg)))∧Below w.heap.size w w':=by
  go_enter Tryz.func94,Tryz.ntmps94
  go_wp2_with fail;refine bHit w (by exact zB) fun bb=>?_;refine (l5Begin_any h.code h.elem h.beg _).mono ?_;rintro _ w1 ⟨rfl,hbw1⟩;have hCw1:Below w.heap.size w w1:=bT bb hbw1;have hsw1:=hbw1.size;(try simp at hsw1);have zz:=And.intro (hQ hbw1 (b:=w.heap.size+1)) <| hQ hbw1 (b:=w.heap.size);(try simp [go_sem] at zz);(try clear z_wp x_wp f_wp l_wp);(try clear z_w x_w f_w l_w);obtain ⟨z_wp,z_w⟩:=zz;obtain ⟨x_wp,f_wp,l_wp⟩:=bO z_wp;obtain ⟨x_w,f_w,l_w⟩:=bO z_w;clear hbw1 bb
  go_wp2
  refine bodyPost_ret (res_c Tryz.results94 rfl (ldHand (begun h.code h.elem h.beg) (by simp [go_sem, *] <;> rfl))) rfl ⟨rfl,by exact zB⟩
end Go.Proofs.YtmnpgkcdfielbaaGreat
