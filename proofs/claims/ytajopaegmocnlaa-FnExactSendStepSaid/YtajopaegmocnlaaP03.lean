/-
  Structs that are kept, loaded and stored as one value; no condition.
  Hands and channels of the program, loaded and stored whole; no condition.
  The laws' own toCall, toHand, eqCall, eqHand; no condition.
  What the document's steps of chapters 6 to 10 compute, as plain functions on numbers and lists; no condition.
  The contracts of the reference model's functions of chapter 1; no condition.
  The reference model's functions of chapter 4; no condition.
-/
import Derived.Test.YtajopaegmocnlaaP02
import Derived.Laws.IdiomCopy
import Derived.Test.YtajopaegmocnlaaP01
set_option linter.unusedSimpArgs false
set_option linter.unusedVariables false
namespace Go.Proofs.Ytajopaegmocnlaa
open Go.RowKit
/-- A hand as it lies in memory. -/
def hvals (h:Ha):Array Value:=#[.int .i64 h.pos,.int .i64 h.code,.int .i64 h.elem,.int .i64 h.cell,.int .i64 h.seen,.int .i64 h.wait,.int .i64 h.fin,.int .i64 h.come,.int .i64 h.grow,.int .i64 h.mine,.int .i64 h.nxt,.int .i64 h.beg,.int .i64 h.reply,.int .i64 h.out]
theorem hv_ne (h:Ha):(hvals h=#[])=False:=by simp [hvals]
theorem hv_size (h:Ha):(hvals h).size=14:=rfl
theorem hv_get0 (h:Ha):(hvals h)[0]?=some (.int .i64 h.pos):=rfl
theorem hv_set0 (h:Ha) (x:Int):(hvals h).setIfInBounds 0 (.int .i64 x)=hvals { h with pos:=x }:=rfl
theorem hv_get1 (h:Ha):(hvals h)[1]?=some (.int .i64 h.code):=rfl
theorem hv_set1 (h:Ha) (x:Int):(hvals h).setIfInBounds 1 (.int .i64 x)=hvals { h with code:=x }:=rfl
theorem hv_get2 (h:Ha):(hvals h)[2]?=some (.int .i64 h.elem):=rfl
theorem hv_set2 (h:Ha) (x:Int):(hvals h).setIfInBounds 2 (.int .i64 x)=hvals { h with elem:=x }:=rfl
theorem hv_get3 (h:Ha):(hvals h)[3]?=some (.int .i64 h.cell):=rfl
theorem hv_set3 (h:Ha) (x:Int):(hvals h).setIfInBounds 3 (.int .i64 x)=hvals { h with cell:=x }:=rfl
theorem hv_get4 (h:Ha):(hvals h)[4]?=some (.int .i64 h.seen):=rfl
theorem hv_set4 (h:Ha) (x:Int):(hvals h).setIfInBounds 4 (.int .i64 x)=hvals { h with seen:=x }:=rfl
theorem hv_get5 (h:Ha):(hvals h)[5]?=some (.int .i64 h.wait):=rfl
theorem hv_set5 (h:Ha) (x:Int):(hvals h).setIfInBounds 5 (.int .i64 x)=hvals { h with wait:=x }:=rfl
theorem hv_get6 (h:Ha):(hvals h)[6]?=some (.int .i64 h.fin):=rfl
theorem hv_set6 (h:Ha) (x:Int):(hvals h).setIfInBounds 6 (.int .i64 x)=hvals { h with fin:=x }:=rfl
theorem hv_get7 (h:Ha):(hvals h)[7]?=some (.int .i64 h.come):=rfl
theorem hv_set7 (h:Ha) (x:Int):(hvals h).setIfInBounds 7 (.int .i64 x)=hvals { h with come:=x }:=rfl
theorem hv_get8 (h:Ha):(hvals h)[8]?=some (.int .i64 h.grow):=rfl
theorem hv_set8 (h:Ha) (x:Int):(hvals h).setIfInBounds 8 (.int .i64 x)=hvals { h with grow:=x }:=rfl
theorem hv_get9 (h:Ha):(hvals h)[9]?=some (.int .i64 h.mine):=rfl
theorem hv_set9 (h:Ha) (x:Int):(hvals h).setIfInBounds 9 (.int .i64 x)=hvals { h with mine:=x }:=rfl
theorem hv_get10 (h:Ha):(hvals h)[10]?=some (.int .i64 h.nxt):=rfl
theorem hv_set10 (h:Ha) (x:Int):(hvals h).setIfInBounds 10 (.int .i64 x)=hvals { h with nxt:=x }:=rfl
theorem hv_get11 (h:Ha):(hvals h)[11]?=some (.int .i64 h.beg):=rfl
theorem hv_set11 (h:Ha) (x:Int):(hvals h).setIfInBounds 11 (.int .i64 x)=hvals { h with beg:=x }:=rfl
theorem hv_get12 (h:Ha):(hvals h)[12]?=some (.int .i64 h.reply):=rfl
theorem hv_set12 (h:Ha) (x:Int):(hvals h).setIfInBounds 12 (.int .i64 x)=hvals { h with reply:=x }:=rfl
theorem hv_get13 (h:Ha):(hvals h)[13]?=some (.int .i64 h.out):=rfl
theorem hv_set13 (h:Ha) (x:Int):(hvals h).setIfInBounds 13 (.int .i64 x)=hvals { h with out:=x }:=rfl
/-- A channel as it lies in memory, with its lists. -/
def cvals (c:Ch) (v1 v2:Value):Array Value:=#[.int .i64 c.cap,.int .i64 c.sent,.int .i64 c.got,.int .i64 c.fin,v1,v2]
theorem cv_ne (c:Ch) (v1 v2:Value):(cvals c v1 v2=#[])=False:=by simp [cvals]
theorem cv_size (c:Ch) (v1 v2:Value):(cvals c v1 v2).size=6:=rfl
theorem cv_get0 (c:Ch) (v1 v2:Value):(cvals c v1 v2)[0]?=some (.int .i64 c.cap):=rfl
theorem cv_set0 (c:Ch) (v1 v2:Value) (x:Int):(cvals c v1 v2).setIfInBounds 0 (.int .i64 x)=cvals { c with cap:=x } v1 v2:=rfl
theorem cv_get1 (c:Ch) (v1 v2:Value):(cvals c v1 v2)[1]?=some (.int .i64 c.sent):=rfl
theorem cv_set1 (c:Ch) (v1 v2:Value) (x:Int):(cvals c v1 v2).setIfInBounds 1 (.int .i64 x)=cvals { c with sent:=x } v1 v2:=rfl
theorem cv_get2 (c:Ch) (v1 v2:Value):(cvals c v1 v2)[2]?=some (.int .i64 c.got):=rfl
theorem cv_set2 (c:Ch) (v1 v2:Value) (x:Int):(cvals c v1 v2).setIfInBounds 2 (.int .i64 x)=cvals { c with got:=x } v1 v2:=rfl
theorem cv_get3 (c:Ch) (v1 v2:Value):(cvals c v1 v2)[3]?=some (.int .i64 c.fin):=rfl
theorem cv_set3 (c:Ch) (v1 v2:Value) (x:Int):(cvals c v1 v2).setIfInBounds 3 (.int .i64 x)=cvals { c with fin:=x } v1 v2:=rfl
theorem cv_get4 (c:Ch) (v1 v2:Value):(cvals c v1 v2)[4]?=some v1:=rfl
theorem cv_get5 (c:Ch) (v1 v2:Value):(cvals c v1 v2)[5]?=some v2:=rfl
theorem cv_set4 (c:Ch) (v1 v2 x:Value):(cvals c v1 v2).setIfInBounds 4 x=cvals c x v2:=rfl
theorem cv_set5 (c:Ch) (v1 v2 x:Value):(cvals c v1 v2).setIfInBounds 5 x=cvals c v1 x:=rfl
def setBoxO (vs:Array Value):Obj→Obj
  | .cells _ t fr=>.cells vs t fr
  | o=>o
def setCellO (i:Nat) (v:Value):Obj→Obj
  | .cells c t fr=>.cells (c.setIfInBounds i v) t fr
  | o=>o
/-- Block b is written whole. -/
def setBox (w:World) (b:Nat) (vs:Array Value):World:={ w with heap:=w.heap.modify b (setBoxO vs) }
/-- What lies in block b. -/
def hp (w:World) (b:Nat):Option Obj:=w.heap[b]?
def okO (n:Nat):Option Obj→Bool
  | some (.cells c _ fr)=>c.size == n && (fr.1 == 0 && fr.2 == 0)
  | _=>false
def cellsO:Option Obj→Array Value
  | some (.cells c _ _)=>c
  | _=>#[]
theorem setBoxO_cells (vs c:Array Value) (t:TypeId):setBoxO vs (.cells c t)=.cells vs t:=rfl
theorem setCellO_cells (i:Nat) (v:Value) (c:Array Value) (t:TypeId):setCellO i v (.cells c t)=.cells (c.setIfInBounds i v) t:=rfl
theorem okO_cells (n:Nat) (c:Array Value) (t:TypeId):okO n (some (.cells c t))=(c.size == n):=by simp [okO]
theorem cellsO_cells (c:Array Value) (t:TypeId):cellsO (some (.cells c t))=c:=rfl
theorem okO_elim {n:Nat} {o:Option Obj} (h:okO n o=true):∃ c t,o=some (.cells c t)∧c.size=n:=by
  unfold okO at h
  split at h
  · rename_i c t fr
    obtain ⟨f1,f2⟩:=fr
    simp at h
    obtain ⟨h1,rfl,rfl⟩:=h
    exact ⟨c,t,rfl,h1⟩
  · cases h
theorem lt_2 (n:Nat):n<n+1+1:=by omega
theorem lt_3 (n:Nat):n<n+1+1+1:=by omega
theorem lt_4 (n:Nat):n<n+1+1+1+1:=by omega
theorem lt_5 (n:Nat):n<n+1+1+1+1+1:=by omega
variable {w W:World} {b b' n i:Nat} {vs us:Array Value} {v:Value}
theorem bx_size:(setBox w b vs).heap.size=w.heap.size:=by simp [setBox]
theorem bx_heap_at:hp (setBox w b vs) b=(hp w b).map (setBoxO vs):=by simp [hp,setBox,Array.getElem?_modify]
theorem bx_heap_ne (h:b'≠b):(setBox w b vs).heap[b']?=w.heap[b']?:=by simp [setBox,Array.getElem?_modify,Ne.symm h]
theorem bx_heap_lt (h:b'<b):hp (setBox w b vs) b'=hp w b':=bx_heap_ne (by omega)
theorem bx_heap_gt (h:b<b'):hp (setBox w b vs) b'=hp w b':=bx_heap_ne (by omega)
theorem bx_cell_at (h:okO vs.size (hp w b)=true):(setBox w b vs).cell? ⟨b,i,none⟩=vs[i]?:=by
  obtain ⟨c,t,e,_⟩:=okO_elim h
  unfold hp at e
  simp [World.cell?,setBox,Array.getElem?_modify,e,setBoxO]
theorem bx_cell_ne (h:b'≠b):(setBox w b vs).cell? ⟨b',i,none⟩=w.cell? ⟨b',i,none⟩:=World.cell?_of_block (bx_heap_ne h)
theorem bx_cell_lt (h:b'<b):(setBox w b vs).cell? ⟨b',i,none⟩=w.cell? ⟨b',i,none⟩:=bx_cell_ne (by omega)
theorem bx_cell_gt (h:b<b'):(setBox w b vs).cell? ⟨b',i,none⟩=w.cell? ⟨b',i,none⟩:=bx_cell_ne (by omega)
theorem bx_frozen:(setBox w b vs).frozen? ⟨b',i,none⟩=w.frozen? ⟨b',i,none⟩:=by
  simp only [World.frozen?,setBox,Array.getElem?_modify]
  by_cases e:b=b'
  · subst e
    simp only [if_true]
    cases w.heap[b]? with
    | none=>rfl
    | some o=>cases o <;> rfl
  · simp [e]
theorem bx_alloc_at {c:Array Value} {t:TypeId} (hn:n=w.heap.size):setBox (w.alloc (.cells c t)) n vs=w.alloc (.cells vs t):=by
  subst hn
  unfold setBox World.alloc
  congr 1
  apply Array.ext_getElem?
  intro k
  simp only [Array.getElem?_modify,Array.getElem?_push]
  by_cases hk:k=w.heap.size
  · subst hk;simp [setBoxO]
  · simp [hk,Ne.symm hk]
theorem bx_alloc_past {o:Obj} (hn:n<w.heap.size):setBox (w.alloc o) n vs=(setBox w n vs).alloc o:=by
  unfold setBox World.alloc
  congr 1
  apply Array.ext_getElem?
  intro k
  simp only [Array.getElem?_modify,Array.getElem?_push,Array.size_modify]
  by_cases hk:k=w.heap.size
  · subst hk;simp [Nat.ne_of_lt hn]
  · simp [hk]
theorem bx_twice:setBox (setBox w b vs) b us=setBox w b us:=by
  unfold setBox
  congr 1
  apply Array.ext_getElem?
  intro k
  simp only [Array.getElem?_modify]
  by_cases e:b=k
  · subst e
    simp only [if_true]
    cases w.heap[b]? with
    | none=>rfl
    | some o=>cases o <;> rfl
  · simp [e]
theorem bx_setCell:(setBox w b vs).setCell ⟨b,i,none⟩ v=setBox w b (vs.setIfInBounds i v):=by
  unfold setBox World.setCell
  congr 1
  apply Array.ext_getElem?
  intro k
  simp only [Array.getElem?_modify]
  by_cases e:b=k
  · subst e
    simp only [if_true]
    cases w.heap[b]? with
    | none=>rfl
    | some o=>cases o <;> rfl
  · simp [e]
theorem bx_drew:setBox w.drew b vs=(setBox w b vs).drew:=rfl
theorem hp_drew:hp w.drew b=hp w b:=rfl
theorem hp_alloc_at {o:Obj} (hn:n=w.heap.size):hp (w.alloc o) n=some o:=by subst hn;exact heap_alloc_new w o
theorem hp_alloc_past {o:Obj} (hn:n<w.heap.size):hp (w.alloc o) n=hp w n:=Below.heap_alloc w o n hn
theorem hp_set_at:hp (w.setCell ⟨b,i,none⟩ v) b=(hp w b).map (setCellO i v):=by
  simp only [hp,World.setCell,Array.getElem?_modify]
  cases w.heap[b]? with
  | none=>simp
  | some o=>cases o <;> simp [setCellO]
theorem hp_set_lt (h:b'<b):hp (w.setCell ⟨b,i,none⟩ v) b'=hp w b':=Below.heap_setCell w _ v b' (by simp;omega)
theorem hp_set_gt (h:b<b'):hp (w.setCell ⟨b,i,none⟩ v) b'=hp w b':=Below.heap_setCell w _ v b' (by simp;omega)
theorem grHp {r:Option Nat} (h:w.grownBy W r) (hb:b<w.heap.size) (hn:some b≠r):hp W b=hp w b:=h.block b hb hn
theorem onlHp {r r':Option Nat} (h:Onl r r' w W) (hb:i<w.heap.size) (h1:some i≠r) (h2:some i≠r'):hp W i=hp w i:=h.2.2.2.2 i hb h1 h2
theorem bO {w:World} {b:Nat} {cs:Array Value} {t:TypeId} (h:hp w b=some (.cells cs t)):(∀ o,w.cell? ⟨b,o,none⟩=cs[o]?)∧(∀ o,w.frozen? ⟨b,o,none⟩=false)∧b<w.heap.size :=
  ⟨fun o=>cell_of_row w b o cs t _ h,fun o=>by have h2:w.heap[b]?=some (.cells cs t):=h;simp [World.frozen?,h2],(Array.getElem?_eq_some_iff.1 h).1⟩
theorem hpB (h:Below n w W) (hb:b<n):hp W b=hp w b:=h.block b hb
theorem hQ {n:Nat} {w W:World} (h:Below n w W) {b:Nat} (hb:b<n:=by ((try simp) <;> omega)):hp W b=hp w b:=hpB h hb
theorem q4 {n:Nat} {w W:World} (h:Below n w W) {b:Nat} (hb:b+1+1+1<n:=by ((try simp) <;> omega)):hp W (b+1+1+1)=hp w (b+1+1+1)∧hp W (b+1+1)=hp w (b+1+1)∧hp W (b+1)=hp w (b+1)∧hp W b=hp w b:=⟨hpB h (by omega),hpB h (by omega),hpB h (by omega),hpB h (by omega)⟩
theorem bBx {lo:Nat} (h:Below lo w W) (hb:lo≤b):Below lo w (setBox W b vs) :=
  ⟨h.os,h.tape,h.output,by rw [bx_size];exact h.size,fun k hk=>(bx_heap_ne (by omega)).trans (h.block k hk)⟩
theorem gBx {g:Nat} (h:Gr g w W) (hb:b=g∨w.heap.size≤b):Gr g w (setBox W b vs) :=
  ⟨h.os,h.tape,h.output,by rw [bx_size];exact h.size,fun k hk hn=>(bx_heap_ne (by rcases hb with hb|hb;exact fun e=>hn (by rw [e,hb]);omega)).trans (h.block k hk hn)⟩
theorem own_box {lo:Nat} {e:TypeId} {k m:Nat} {x:Value} {xs:List Value} (h:w.ownsRow lo e k x m xs) (hp:x.ownBlock≠some b):(setBox w b vs).ownsRow lo e k x m xs :=
  h.kept (row:=some b) ⟨rfl,rfl,rfl,by rw [bx_size];exact Nat.le_refl _,fun i _ hn=>bx_heap_ne (fun e=>hn (by rw [e]))⟩ (.inr hp)
theorem rowA {r:Option Nat} {o:Obj} (h:w.grownBy W r):w.grownBy (W.alloc o) r:=⟨h.os,h.tape,h.output,Nat.le_trans h.size (by simp),fun k hk hn=>(Below.heap_alloc W o k (Nat.lt_of_lt_of_le hk h.size)).trans (h.block k hk hn)⟩
theorem rowD {r:Option Nat} (h:w.grownBy W r):w.grownBy W.drew r:=⟨h.os,h.tape,h.output,h.size,h.block⟩
theorem rowS {r:Option Nat} {p:Addr} {u:Value} (h:w.grownBy W r) (hp:w.heap.size≤p.block):w.grownBy (W.setCell p u) r :=
  ⟨h.os,h.tape,h.output,by simpa [World.setCell] using h.size,fun k hk hn=>(Below.heap_setCell W p u k (by omega)).trans (h.block k hk hn)⟩
theorem rowX {r:Option Nat} (h:w.grownBy W r) (hb:w.heap.size≤b):w.grownBy (setBox W b vs) r :=
  ⟨h.os,h.tape,h.output,by rw [bx_size];exact h.size,fun k hk hn=>(bx_heap_ne (by omega)).trans (h.block k hk hn)⟩
theorem oA {r r':Option Nat} {o:Obj} (h:Onl r r' w W):Onl r r' w (W.alloc o) :=
  ⟨h.1,h.2.1,h.2.2.1,Nat.le_trans h.2.2.2.1 (by simp),fun k hk h1 h2=>(Below.heap_alloc W o k (Nat.lt_of_lt_of_le hk h.2.2.2.1)).trans (h.2.2.2.2 k hk h1 h2)⟩
theorem oD {r r':Option Nat} (h:Onl r r' w W):Onl r r' w W.drew:=h
theorem oS {r r':Option Nat} {p:Addr} {u:Value} (h:Onl r r' w W) (hp:w.heap.size≤p.block):Onl r r' w (W.setCell p u) :=
  ⟨h.1,h.2.1,h.2.2.1,by simpa [World.setCell] using h.2.2.2.1,fun k hk h1 h2=>(Below.heap_setCell W p u k (by omega)).trans (h.2.2.2.2 k hk h1 h2)⟩
theorem oX {r r':Option Nat} (h:Onl r r' w W) (hb:w.heap.size≤b):Onl r r' w (setBox W b vs) :=
  ⟨h.1,h.2.1,h.2.2.1,by rw [bx_size];exact h.2.2.2.1,fun k hk h1 h2=>(bx_heap_ne (by omega)).trans (h.2.2.2.2 k hk h1 h2)⟩
/- Loading and storing whole. -/
variable {P:Program} {T:TypeId}
theorem load_box (hA:∀ w,(isAgg T).run P w=.ok true w) (hS:∀ w,(sizeOf T).run P w=.ok n w) (h:okO n (hp w b)=true) :
    (loadVar T ⟨b,0,none⟩).run P w=.ok (.agg (cellsO (hp w b))) w:=by
  unfold hp at *
  obtain ⟨c,t,e,hc⟩:=okO_elim h
  have h1:(loadCells ⟨b,0,none⟩ c.toList.length).run P w=.ok c.toList.toArray w:=run_loadCells_list w ⟨b,0,none⟩ c.toList (fun j v hj=>by
    have e2:(⟨b,0,none⟩:Addr).add j=⟨b,j,none⟩:=by by_cases h0:j=0 <;> simp [Addr.add,h0]
    rw [e2]
    simp only [World.cell?,e]
    simpa using hj)
  simp only [Array.length_toList,hc] at h1
  rw [e,cellsO_cells]
  simp only [loadVar,Sem.run_bind,hA,hS,Result.andThen_ok,if_true,h1,Sem.run_pure]
theorem setCells_heap (b:Nat):∀ (l:List Value) (o:Nat) (w:World),w.setCells b o l={ w with heap:=w.heap.modify b (fun x=>match x with|.cells c t fr=>.cells ((l.zipIdx o).foldl (fun c p=>c.setIfInBounds p.2 p.1) c) t fr|x=>x) }
  | [],o,w=>by
    unfold World.setCells
    have e:w.heap.modify b (fun x=>match x with|.cells c t fr=>.cells ((([]:List Value).zipIdx o).foldl (fun c p=>c.setIfInBounds p.2 p.1) c) t fr|x=>x)=w.heap:=by
      apply Array.ext_getElem?
      intro k
      simp only [Array.getElem?_modify]
      by_cases e:b=k
      · subst e
        simp only [if_true]
        cases w.heap[b]? with
        | none=>rfl
        | some x=>cases x <;> rfl
      · simp [e]
    rw [e]
  | v :: l,o,w=>by
    unfold World.setCells
    rw [setCells_heap b l (o+1)]
    simp only [World.setCell]
    congr 1
    apply Array.ext_getElem?
    intro k
    simp only [Array.getElem?_modify]
    by_cases e:b=k
    · subst e
      simp only [if_true]
      cases w.heap[b]? with
      | none=>rfl
      | some x=>cases x <;> simp [List.zipIdx_cons]
    · simp [e]
theorem fold_get:∀ (l:List Value) (o:Nat) (c:Array Value) (k:Nat),o+l.length≤c.size→((l.zipIdx o).foldl (fun c p=>c.setIfInBounds p.2 p.1) c)[k]?=if o≤k∧k<o+l.length then l[k - o]? else c[k]?
  | [],o,c,k,_=>by
    have:¬ (o≤k∧k<o+([]:List Value).length):=by simp
    rw [if_neg this];rfl
  | v :: l,o,c,k,h=>by
    simp only [List.zipIdx_cons,List.foldl_cons,List.length_cons] at *
    rw [fold_get l (o+1) _ k (by rw [Array.size_setIfInBounds];omega)]
    by_cases e:k=o
    · subst e
      rw [if_neg (by omega),if_pos (by omega),Array.getElem?_setIfInBounds,if_pos rfl,if_pos (by omega)];simp
    · by_cases e2:o+1≤k∧k<o+1+l.length
      · rw [if_pos e2,if_pos (by omega)]
        obtain ⟨m,rfl⟩:∃ m,k=o+1+m:=⟨k - (o+1),by omega⟩
        rw [show o+1+m - (o+1)=m by omega,show o+1+m - o=m+1 by omega];rfl
      · rw [if_neg e2,if_neg (by omega),Array.getElem?_setIfInBounds,if_neg (fun h=>e h.symm)]
theorem fold_all (vs c:Array Value) (h:c.size=vs.size):((vs.toList.zipIdx 0).foldl (fun c p=>c.setIfInBounds p.2 p.1) c)=vs:=by
  apply Array.ext_getElem?
  intro k
  rw [fold_get _ _ _ _ (by simp;omega)]
  by_cases e:k<vs.size
  · rw [if_pos (by simp;omega)];simp
  · rw [if_neg (by simp;omega),Array.getElem?_eq_none (by omega),Array.getElem?_eq_none (by omega)]
theorem store_cells (h:okO n (hp w b)=true) (hv:vs.size=n) (h1:∀ v ∈ vs.toList,v.oneCell'=true) :
    (storeCells ⟨b,0,none⟩ vs.toList).run P w=.ok () (setBox w b vs):=by
  unfold hp at h
  obtain ⟨c,t,e,hc⟩:=okO_elim h
  have h2:=run_storeCells_cells (P:=P) b 0 vs.toList 0 w (fun j hj=>by
      have:j<c.size:=by rw [hc,← hv];simpa using hj
      simp [World.cell?,e,this]) (fun j hj=>by simp [World.frozen?,e]) h1
  have h3:w.setCells b (0+0) vs.toList=setBox w b vs:=by
    rw [setCells_heap]
    unfold setBox
    congr 1
    apply Array.ext_getElem?
    intro k
    simp only [Array.getElem?_modify]
    by_cases ek:b=k
    · subst ek
      simp only [if_true,e,Option.map_some,setBoxO]
      rw [fold_all vs c (by omega)]
    · simp [ek]
  rw [h3] at h2
  exact h2
theorem store_box (hS:∀ w,(sizeOf T).run P w=.ok n w) (h:okO n (hp w b)=true) (hv:vs.size=n) (h1:∀ v ∈ vs.toList,v.oneCell'=true) :
    (storeVar T ⟨b,0,none⟩ (.agg vs)).run P w=.ok () (setBox w b vs):=by
  have h2:=store_cells (P:=P) h hv h1
  simp only [storeVar,Sem.run_bind,hS,Result.andThen_ok,Value.cells,hv,ne_eq,not_true_eq_false,if_false]
  simpa using h2
/- Results that lie in memory. -/
variable {fn:Func} {p q u:Tmp} {S:TypeId} {tmps:Array Value} {a a':Addr} {x y:Value}
theorem res_c (h:fn.results=#[.cell p T]) (hp:tmps.getD p undef=.pointer (some a)) (hl:(loadVar T a).run P w=.ok x w):(results fn tmps).run P w=.ok x w:=by
  simp only [results,h]
  simp [Sem.run_bind,Result.andThen,asAddr] at *
  simp [hp,hl]
theorem res_ct (h:fn.results=#[.cell p T,.tmp u]) (hp:tmps.getD p undef=.pointer (some a)) (hl:(loadVar T a).run P w=.ok x w):(results fn tmps).run P w=.ok (.tuple #[x,tmps.getD u undef]) w:=by
  simp only [results,h]
  simp [Sem.run_bind,Result.andThen,asAddr] at *
  simp [hp,hl]
theorem res_cc (h:fn.results=#[.cell p T,.cell q S]) (hp:tmps.getD p undef=.pointer (some a)) (hl:(loadVar T a).run P w=.ok x w) (hp':tmps.getD q undef=.pointer (some a')) (hl':(loadVar S a').run P w=.ok y w):(results fn tmps).run P w=.ok (.tuple #[x,y]) w:=by
  simp only [results,h]
  simp [Sem.run_bind,Result.andThen,asAddr] at *
  simp [hp,hl,hp',hl']
theorem res_cct (h:fn.results=#[.cell p T,.cell q S,.tmp u]) (hp:tmps.getD p undef=.pointer (some a)) (hl:(loadVar T a).run P w=.ok x w) (hp':tmps.getD q undef=.pointer (some a')) (hl':(loadVar S a').run P w=.ok y w):(results fn tmps).run P w=.ok (.tuple #[x,y,tmps.getD u undef]) w:=by
  simp only [results,h]
  simp [Sem.run_bind,Result.andThen,asAddr] at *
  simp [hp,hl,hp',hl']
end Go.Proofs.Ytajopaegmocnlaa
set_option linter.unusedSimpArgs false
set_option linter.unusedVariables false
namespace Go.Proofs.Ytajopaegmocnlaa
open Go.RowKit
theorem infoHand:(Try.prog.info? 36).map (fun i=>(i.zero,i.size,i.bytes))=some (some (.agg (hvals Ha.zero)),14,112):=by kernel_rfl
theorem infoChan:(Try.prog.info? 33).map (fun i=>(i.zero,i.size,i.bytes))=some (some (.agg (cvals Ch.zero (.slice none 0 0) (.slice none 0 0))),6,80):=by kernel_rfl
theorem zeroHand (w:World):(zeroValue 36).run Try.prog w=.ok (.agg (hvals Ha.zero)) w:=by
  obtain ⟨i,hi,hz,_⟩:=info_parts infoHand
  have e:Try.prog.info? 36=some Try.t36:=by kernel_rfl
  obtain rfl:Try.t36=i:=by rw [e] at hi;exact Option.some.inj hi
  simp [zeroValue,go_sem,hz]
theorem zeroChan (w:World):(zeroValue 33).run Try.prog w=.ok (.agg (cvals Ch.zero (.slice none 0 0) (.slice none 0 0))) w:=by
  obtain ⟨i,hi,hz,_⟩:=info_parts infoChan
  have e:Try.prog.info? 33=some Try.t33:=by kernel_rfl
  obtain rfl:Try.t33=i:=by rw [e] at hi;exact Option.some.inj hi
  simp [zeroValue,go_sem,hz]
theorem aggHand (w:World):(isAgg 36).run Try.prog w=.ok true w:=by simp [isAgg,go_sem]
theorem aggChan (w:World):(isAgg 33).run Try.prog w=.ok true w:=by simp [isAgg,go_sem]
theorem szHand (w:World):(sizeOf 36).run Try.prog w=.ok 14 w:=by simp [go_sem]
theorem szChanT (w:World):(sizeOf 33).run Try.prog w=.ok 6 w:=by simp [go_sem]
variable {w:World} {b:Nat}
theorem loadHandV (h:okO 14 (hp w b)=true):(loadVar 36 ⟨b,0,none⟩).run Try.prog w=.ok (.agg (cellsO (hp w b))) w:=load_box aggHand szHand h
theorem loadChanV (h:okO 6 (hp w b)=true):(loadVar 33 ⟨b,0,none⟩).run Try.prog w=.ok (.agg (cellsO (hp w b))) w:=load_box aggChan szChanT h
theorem loadHand (h:okO 14 (hp w b)=true):(Instr.loadAt 36 (.pointer (some ⟨b,0,none⟩))).run Try.prog w=.ok (.agg (cellsO (hp w b))) w:=by
  simp only [Instr.loadAt,Instr.sureAddr,Sem.run_bind,Sem.run_pure,Result.andThen_ok,loadHandV h]
theorem loadChan (h:okO 6 (hp w b)=true):(Instr.loadAt 33 (.pointer (some ⟨b,0,none⟩))).run Try.prog w=.ok (.agg (cellsO (hp w b))) w:=by
  simp only [Instr.loadAt,Instr.sureAddr,Sem.run_bind,Sem.run_pure,Result.andThen_ok,loadChanV h]
theorem storeHand (x:Ha) (h:okO 14 (hp w b)=true):(Instr.storeAt 36 (.pointer (some ⟨b,0,none⟩)) (.agg (hvals x))).run Try.prog w=.ok () (setBox w b (hvals x)):=by
  simp only [Instr.storeAt,Instr.sureAddr,Sem.run_bind,Sem.run_pure,Result.andThen_ok]
  exact store_box szHand h rfl (by simp [hvals,Value.oneCell'])
theorem storeChan (c:Ch) (x y:Option Addr) (n p m q:Nat) (h:okO 6 (hp w b)=true):(Instr.storeAt 33 (.pointer (some ⟨b,0,none⟩)) (.agg (cvals c (.slice x n p) (.slice y m q)))).run Try.prog w=.ok () (setBox w b (cvals c (.slice x n p) (.slice y m q))):=by
  simp only [Instr.storeAt,Instr.sureAddr,Sem.run_bind,Sem.run_pure,Result.andThen_ok]
  exact store_box szChanT h rfl (by simp [cvals,Value.oneCell'])
theorem storeHandC (x:Ha) (h:okO 14 (hp w b)=true):(storeCells ⟨b,0,none⟩ (hvals x).toList).run Try.prog w=.ok () (setBox w b (hvals x)):=store_cells h rfl (by simp [hvals,Value.oneCell'])
theorem storeChanC (c:Ch) (x y:Option Addr) (n p m q:Nat) (h:okO 6 (hp w b)=true):(storeCells ⟨b,0,none⟩ (cvals c (.slice x n p) (.slice y m q)).toList).run Try.prog w=.ok () (setBox w b (cvals c (.slice x n p) (.slice y m q))):=store_cells h rfl (by simp [cvals,Value.oneCell'])
/-- Loading whole, as one word. -/
def LHand (x:Value):Sem Value:=Instr.loadAt 36 x
def VHand (x:Addr):Sem Value:=loadVar 36 x
theorem toLHand (x:Value):Instr.loadAt 36 x=LHand x:=by unfold LHand;simp
theorem toVHand (x:Addr):loadVar 36 x=VHand x:=by unfold VHand;simp
theorem runLHand (h:okO 14 (hp w b)=true):(LHand (.pointer (some ⟨b,0,none⟩))).run Try.prog w=.ok (.agg (cellsO (hp w b))) w:=loadHand h
theorem runVHand (h:okO 14 (hp w b)=true):(VHand ⟨b,0,none⟩).run Try.prog w=.ok (.agg (cellsO (hp w b))) w:=loadHandV h
/-- Loading whole, as one word. -/
def LChan (x:Value):Sem Value:=Instr.loadAt 33 x
def VChan (x:Addr):Sem Value:=loadVar 33 x
theorem toLChan (x:Value):Instr.loadAt 33 x=LChan x:=by unfold LChan;simp
theorem toVChan (x:Addr):loadVar 33 x=VChan x:=by unfold VChan;simp
theorem runLChan (h:okO 6 (hp w b)=true):(LChan (.pointer (some ⟨b,0,none⟩))).run Try.prog w=.ok (.agg (cellsO (hp w b))) w:=loadChan h
theorem runVChan (h:okO 6 (hp w b)=true):(VChan ⟨b,0,none⟩).run Try.prog w=.ok (.agg (cellsO (hp w b))) w:=loadChanV h
theorem ldHand (x:Ha) (h:hp w b=some (.cells (hvals x) 36)):(loadVar 36 ⟨b,0,none⟩).run Try.prog w=.ok (.agg (hvals x)) w:=by
  have:=loadHandV (w:=w) (b:=b) (by rw [h];simp [okO,hv_size])
  rw [h] at this
  exact this
theorem ldChan (c:Ch) (x y:Value) (h:hp w b=some (.cells (cvals c x y) 33)):(loadVar 33 ⟨b,0,none⟩).run Try.prog w=.ok (.agg (cvals c x y)) w:=by
  have:=loadChanV (w:=w) (b:=b) (by rw [h];simp [okO,cv_size])
  rw [h] at this
  exact this
attribute [go_sem] runLHand runVHand bx_size bx_heap_at bx_heap_lt bx_heap_gt bx_cell_at bx_cell_lt bx_cell_gt bx_frozen bx_alloc_at bx_alloc_past bx_twice bx_setCell bx_drew hp_drew hp_alloc_at hp_alloc_past hp_set_at hp_set_lt hp_set_gt okO_cells cellsO_cells setBoxO_cells setCellO_cells Option.map_some lt_2 lt_3 lt_4 lt_5 hv_ne hv_size hv_get0 hv_set0 hv_get1 hv_set1 hv_get2 hv_set2 hv_get3 hv_set3 hv_get4 hv_set4 hv_get5 hv_set5 hv_get6 hv_set6 hv_get7 hv_set7 hv_get8 hv_set8 hv_get9 hv_set9 hv_get10 hv_set10 hv_get11 hv_set11 hv_get12 hv_set12 hv_get13 hv_set13
attribute [go_sem] runLChan runVChan cv_ne cv_size cv_get0 cv_set0 cv_get1 cv_set1 cv_get2 cv_set2 cv_get3 cv_set3 cv_get4 cv_set4 cv_get5 cv_set5
end Go.Proofs.Ytajopaegmocnlaa
set_option linter.unusedSimpArgs false
set_option linter.unusedVariables false
namespace Go.Proofs.Ytajopaegmocnlaa
open Go.RowKit
theorem aggHandL (w:World):(isAgg 29).run Try.prog w=.ok true w:=by simp [isAgg,go_sem]
theorem szHandL (w:World):(sizeOf 29).run Try.prog w=.ok 14 w:=by simp [go_sem]
theorem loadHandVL {w:World} {b:Nat} (h:okO 14 (hp w b)=true):(loadVar 29 ⟨b,0,none⟩).run Try.prog w=.ok (.agg (cellsO (hp w b))) w:=load_box aggHandL szHandL h
theorem loadHandL {w:World} {b:Nat} (h:okO 14 (hp w b)=true):(Instr.loadAt 29 (.pointer (some ⟨b,0,none⟩))).run Try.prog w=.ok (.agg (cellsO (hp w b))) w:=by
  simp only [Instr.loadAt,Instr.sureAddr,Sem.run_bind,Sem.run_pure,Result.andThen_ok,loadHandVL h]
/-- Loading whole, as one word: a hand of the laws. -/
def LHandL (x:Value):Sem Value:=Instr.loadAt 29 x
theorem toLHandL (x:Value):Instr.loadAt 29 x=LHandL x:=by unfold LHandL;simp
theorem runLHandL {w:World} {b:Nat} (h:okO 14 (hp w b)=true):(LHandL (.pointer (some ⟨b,0,none⟩))).run Try.prog w=.ok (.agg (cellsO (hp w b))) w:=loadHandL h
theorem aggChanL (w:World):(isAgg 25).run Try.prog w=.ok true w:=by simp [isAgg,go_sem]
theorem szChanL (w:World):(sizeOf 25).run Try.prog w=.ok 6 w:=by simp [go_sem]
theorem loadChanVL {w:World} {b:Nat} (h:okO 6 (hp w b)=true):(loadVar 25 ⟨b,0,none⟩).run Try.prog w=.ok (.agg (cellsO (hp w b))) w:=load_box aggChanL szChanL h
theorem loadChanL {w:World} {b:Nat} (h:okO 6 (hp w b)=true):(Instr.loadAt 25 (.pointer (some ⟨b,0,none⟩))).run Try.prog w=.ok (.agg (cellsO (hp w b))) w:=by
  simp only [Instr.loadAt,Instr.sureAddr,Sem.run_bind,Sem.run_pure,Result.andThen_ok,loadChanVL h]
/-- Loading whole, as one word: a channel of the laws. -/
def LChanL (x:Value):Sem Value:=Instr.loadAt 25 x
theorem toLChanL (x:Value):Instr.loadAt 25 x=LChanL x:=by unfold LChanL;simp
theorem runLChanL {w:World} {b:Nat} (h:okO 6 (hp w b)=true):(LChanL (.pointer (some ⟨b,0,none⟩))).run Try.prog w=.ok (.agg (cellsO (hp w b))) w:=loadChanL h
attribute [go_sem] runLHandL runLChanL
attribute [local go_sem ↓] zeroHand toLHand toVHand storeHand storeHandC
set_option maxHeartbeats 400000 in
theorem toCall_whole (k e:Int) (w:World):Calls Try.prog 30 #[.agg #[.int .i64 k,.int .i64 e]] w fun r w'=>r=.returned (.agg #[.int .i64 k,.int .i64 e])∧Below w.heap.size w w':=by
  go_enter Try.func30,Try.ntmps30
  go_wp2
  exact bodyPost_ret (v:=.agg #[.int .i64 k,.int .i64 e]) (by simp [results,Try.results30,go_sem, *]) rfl ⟨rfl,by exact zB⟩
set_option maxRecDepth 100000 in
set_option maxHeartbeats 1000000 in
theorem toHand_any (h:Ha) (w:World):Calls Try.prog 8 #[.agg (hvals h)] w fun r w'=>r=.returned (.agg (hvals h))∧Below w.heap.size w w':=by
  go_enter Try.func8,Try.ntmps8
  go_wp2_with fail;refine bHit w (by exact zB) fun bb=>?_;refine (toCall_whole h.code h.elem _).mono ?_;rintro _ w1 ⟨rfl,hbw1⟩;have hCw1:Below w.heap.size w w1:=bT bb hbw1;have hsw1:=hbw1.size;(try simp at hsw1);have zz:=And.intro (hQ hbw1 (b:=w.heap.size+1+1)) <| And.intro (hQ hbw1 (b:=w.heap.size+1)) <| hQ hbw1 (b:=w.heap.size);(try simp [go_sem] at zz);(try clear z_wpp x_wpp f_wpp l_wpp);(try clear z_wp x_wp f_wp l_wp);(try clear z_w x_w f_w l_w);obtain ⟨z_wpp,z_wp,z_w⟩:=zz;obtain ⟨x_wpp,f_wpp,l_wpp⟩:=bO z_wpp;obtain ⟨x_wp,f_wp,l_wp⟩:=bO z_wp;obtain ⟨x_w,f_w,l_w⟩:=bO z_w;clear hbw1 bb
  go_wp2
  exact bodyPost_ret (res_c Try.results8 rfl (ldHand h (by simp [go_sem, *] <;> rfl))) rfl ⟨rfl,by exact zB⟩
set_option maxRecDepth 100000 in
set_option maxHeartbeats 1000000 in
theorem eqHand_any (h:Ha) (w:World):Calls Try.prog 11 #[.agg (hvals h),.agg (hvals h)] w fun r w'=>r=.returned (.bool true)∧Below w.heap.size w w':=by
  go_enter Try.func11,Try.ntmps11
  go_wp2
  go_ret
  exact ⟨rfl,by exact zB⟩
end Go.Proofs.Ytajopaegmocnlaa
set_option linter.unusedSimpArgs false
set_option linter.unusedVariables false
namespace Go.Proofs.Ytajopaegmocnlaa
abbrev St:=Ch × Ha × Bool
def stepOk (c:Ch) (h:Ha) (f t k:Int):Bool:=chanOk c && (handOk h && (inB h.pos f t && (k == 0 || h.code == k)))
def nothing:St:=(Ch.zero,Ha.zero,false)
def done (c:Ch) (h:Ha):St:=if chanOk c && handOk h then (c,h,true) else nothing
def anew (h:Ha):Ha:=begun h.code h.elem h.beg
def cellAt (c:Ch) (i:Int):C3:=c.cells.getD i.toNat ⟨0,0,0⟩
def setAt (c:Ch) (i:Int) (x:C3):Ch:={ c with cells:=c.cells.set i.toNat x }
def stateC (c:Ch) (i st:Int):Ch:=setAt c i { cellAt c i with s:=st }
def turnX (x:C3) (f t v:Int):C3:=⟨turnS x.s x.e x.t f t v,x.e,turnW x.s x.e x.t f t v⟩
def turnXB (x:C3) (f t v:Int):Bool:=turnB x.s x.e x.t f t v
def turnC (c:Ch) (i f t v:Int):Ch:=setAt c i (turnX (cellAt c i) f t v)
def turnCB (c:Ch) (i f t v:Int):Bool:=turnXB (cellAt c i) f t v
/- Chapter 6 -/
def seenAs (h:Ha) (x:C3):Ha:={ h with seen:=x.s,wait:=x.t }
def look6 (c:Ch) (h:Ha):Ha × Bool :=
  let x:=cellAt c h.cell
  let y:=seenAs h x
  if x.s == 0 then ({ y with pos:=4 },true) else if x.s == 1 then ({ y with pos:=6 },true) else if x.s == 4 then ({ y with pos:=7 },true)
  else if x.s == 8 then (anew y,true) else if x.s == 10 then (anew y,true) else (y,false)
def call6 (c:Ch) (h:Ha):Ch × Ha:=(tellC c h.wait 1,if tellB c h.wait 1 then { h with pos:=8 } else anew h)
def wait6 (c:Ch) (h:Ha) (st th el:Int):Ch × Ha :=
  if 80≤c.words.length then (c,resting 4 0) else
  if turnCB c h.cell h.seen st (c.words.length+1) then ({ turnC c h.cell h.seen st (c.words.length+1) with words:=c.words ++ [0] },{ h with mine:=c.words.length+1,pos:=th })
  else (turnC c h.cell h.seen st (c.words.length+1),{ h with pos:=el })
def put6 (c:Ch) (h:Ha):St :=
  if h.seen != 0 && h.seen != 1 then nothing else
  if h.seen == 0 && (decide (h.come≤h.cell) && decide (h.fin≤h.cell)) then done (wait6 c h 3 23 3).1 (wait6 c h 3 23 3).2 else
  if turnCB c h.cell h.seen 2 0 then done (turnC c h.cell h.seen 2 0) (resting 1 0) else done (turnC c h.cell h.seen 2 0) { h with pos:=3 }
def send1 (c:Ch) (h:Ha):St:=if c.sent == 40 then done c (resting 4 0) else done { c with sent:=c.sent+1 } { h with cell:=c.sent,pos:=2 }
def layC (c:Ch) (i m:Int):Ch:=setAt c i { cellAt c i with e:=laidF (cellAt c i).s (cellAt c i).e (cellAt c i).t m }
def send2 (c:Ch) (h:Ha):St:=done (layC c h.cell h.elem) { h with pos:=3 }
def send3 (c:Ch) (h:Ha):St:=if (look6 c h).2 then done c (look6 c h).1 else nothing
def sendStep (c:Ch) (h:Ha):St :=
  if stepOk c h 1 8 1 then
    if h.pos == 1 then send1 c h else if h.pos == 2 then send2 c h else if h.pos == 3 then send3 c h
    else if h.pos == 4 then done c { h with fin:=c.fin,pos:=5 } else if h.pos == 5 then done c { h with come:=c.got,pos:=6 }
    else if h.pos == 6 then put6 c h else if h.pos == 7 then done (call6 c h).1 (call6 c h).2 else done (stateC c h.cell 7) (resting 1 0)
  else nothing
end Go.Proofs.Ytajopaegmocnlaa
set_option linter.unusedSimpArgs false
set_option linter.unusedVariables false
namespace Go.Proofs.Ytajopaegmocnlaa
open Go.RowKit
set_option maxHeartbeats 400000 in
theorem l1In_any (n m k:Int) (w:World):Calls Try.prog 48 #[.int .i64 n,.int .i64 m,.int .i64 k] w fun e w'=>e=.returned (.bool (inB n m k))∧w=w':=by
  go_enter Try.func48,Try.ntmps48
  go_wp2
  all_goals go_ret
  · exact ⟨ret_bool (inB_lo ‹_›),rfl⟩
  · exact ⟨ret_bool (inB_no (.inl ‹_›)).symm,rfl⟩
set_option maxHeartbeats 400000 in
theorem l1State_any (n:Int) (w:World):Calls Try.prog 74 #[.int .i64 n] w fun r w'=>r=.returned (.bool (inB n 0 10))∧w=w':=by
  go_enter Try.func74,Try.ntmps74
  go_wp2_with (go_at_call 48;refine (l1In_any _ _ _ _).mono ?_;rintro _ _ ⟨rfl,rfl⟩)
  go_ret
  exact ⟨rfl,rfl⟩
set_option maxHeartbeats 400000 in
theorem l1Elem_any (n:Int) (w:World):Calls Try.prog 51 #[.int .i64 n] w fun r w'=>r=.returned (.bool (inB n 0 999))∧w=w':=by
  go_enter Try.func51,Try.ntmps51
  go_wp2_with (go_at_call 48;refine (l1In_any _ _ _ _).mono ?_;rintro _ _ ⟨rfl,rfl⟩)
  go_ret
  exact ⟨rfl,rfl⟩
set_option maxHeartbeats 400000 in
theorem sCellOk_any (s e t:Int) (w:World):Calls Try.prog 50 #[.agg #[.int .i64 s,.int .i64 e,.int .i64 t]] w fun r w'=>r=.returned (.bool (cellB s e t))∧Below w.heap.size w w':=by
  go_enter Try.func50,Try.ntmps50
  go_wp2_with (first|(go_at_call 74;refine (l1State_any _ _).mono ?_;rintro _ _ ⟨rfl,rfl⟩)|(go_at_call 51;refine (l1Elem_any _ _).mono ?_;rintro _ _ ⟨rfl,rfl⟩)|(go_at_call 48;refine (l1In_any _ _ _ _).mono ?_;rintro _ _ ⟨rfl,rfl⟩))
  all_goals go_ret
  all_goals refine ⟨ret_bool ?_,by exact zB⟩
  · exact cellB_3 ‹_› ‹_›
  · exact cellB_2 ‹_›
  · exact cellB_1 ‹_›
end Go.Proofs.Ytajopaegmocnlaa
set_option linter.unusedSimpArgs false
set_option linter.unusedVariables false
namespace Go.Proofs.Ytajopaegmocnlaa
open Go.RowKit
set_option maxRecDepth 100000 in
set_option maxHeartbeats 400000 in
theorem sCallOk_any (k e:Int) (w:World):Calls Try.prog 73 #[.agg #[.int .i64 k,.int .i64 e]] w fun r w'=>r=.returned (.bool (callOk k e))∧Below w.heap.size w w':=by
  go_enter Try.func73,Try.ntmps73
  go_wp2_with (go_at_call 51;refine (l1Elem_any _ _).mono ?_;rintro _ _ ⟨rfl,rfl⟩)
  all_goals go_ret
  all_goals exact ⟨ret_bool (by simp_all [callOk]),by exact zB⟩
set_option maxRecDepth 100000 in
theorem l4None_any (k e:Int) (w:World):Calls Try.prog 72 #[.agg #[.int .i64 k,.int .i64 e]] w fun r w'=>r=.returned (.bool (noCall k e))∧Below w.heap.size w w':=by
  go_enter Try.func72,Try.ntmps72
  go_wp2
  all_goals go_ret
  all_goals exact ⟨ret_bool (by simp_all [noCall]),by exact zB⟩
end Go.Proofs.Ytajopaegmocnlaa
