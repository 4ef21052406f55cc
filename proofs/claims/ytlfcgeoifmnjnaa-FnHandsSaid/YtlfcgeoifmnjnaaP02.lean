/-
  What the document's functions of chapters 11 and 12 compute, as plain functions on numbers and lists; no condition.
  Lists in memory that a call has made itself, and lists that are appended to them; no condition.
  Lists of a call's own that lie from the start of a block on; no condition.
  Structs that are kept, loaded and stored as one value; no condition.
  Hands and channels of the program, loaded and stored whole; no condition.
-/
import Derived.Test.YtlfcgeoifmnjnaaP01
import Derived.Laws.AppendOwnNone
import Derived.Laws.IdiomCopy
set_option linter.unusedSimpArgs false
set_option linter.unusedVariables false
namespace Go.Proofs.Ytlfcgeoifmnjnaa
structure De where
  task:Int
  code:Int
  elem:Int
  beg:Int
  fin:Int
  reply:Int
  out:Int
structure Wo where
  ch:Ch
  hands:List Ha
  deals:List De
  now:Int
def Wo.zero:Wo:=⟨Ch.zero,[],[],0⟩
def De.zero:De:=⟨0,0,0,0,0,0,0⟩
def taskB (n:Nat) (who:Int):Bool:=inB who 0 ((n:Int) - 1)
def dealB (n:Nat) (now:Int) (d:De):Bool:=taskB n d.task && (replyOk d.code d.elem d.reply && (inB d.beg 0 now && (inB d.fin 0 now && inB d.out 0 999)))
def handB11 (now:Int) (h:Ha):Bool:=handOk h && decide (h.beg≤now)
def worldHead (x:Wo):Bool:=chanOk x.ch && (decide (1≤x.hands.length) && (decide (x.hands.length≤6) && (decide (x.deals.length≤1000) && inB x.now 0 20000)))
def worldOk (x:Wo):Bool:=worldHead x && (x.hands.all (handB11 x.now) && x.deals.all (dealB x.hands.length x.now))
def newWorld (cap tasks:Int):Wo × Bool:=if inB cap 0 4 && inB tasks 1 6 then (⟨newChan cap,List.replicate tasks.toNat (resting 0 0),[],0⟩,true) else (Wo.zero,false)
def handAt (x:Wo) (who:Int):Ha:=x.hands.getD who.toNat Ha.zero
def setHand (x:Wo) (who:Int) (h:Ha):Wo:={ x with hands:=x.hands.set who.toNat h }
def taskOk (x:Wo) (who:Int):Bool:=taskB x.hands.length who
def asked (x:Wo) (who k e:Int):Wo × Int :=
  if worldOk x && taskOk x who then
    if (called (handAt x who) k e).2 != 0 then (x,(called (handAt x who) k e).2) else if x.now == 20000 then (x,1)
    else ({ setHand x who { (called (handAt x who) k e).1 with beg:=x.now+1 } with now:=x.now+1 },0)
  else (Wo.zero,3)
/-- What a step makes of a world. -/
def stepW (x:Wo) (who:Int) (s:St):Wo × Bool :=
  if !s.2.2 || x.now == 20000 then (x,false)
  else if s.2.1.pos != 0 then ({ setHand x who s.2.1 with now:=x.now+1,ch:=s.1 },true)
  else if decide (1000≤x.deals.length) || !replyOk (handAt x who).code (handAt x who).elem s.2.1.reply then (x,false)
  else ({ setHand x who s.2.1 with now:=x.now+1,ch:=s.1,deals:=x.deals ++ [⟨who,(handAt x who).code,(handAt x who).elem,(handAt x who).beg,x.now+1,s.2.1.reply,s.2.1.out⟩] },true)
def step11 (x:Wo) (who:Int):Wo × Bool:=stepW x who (stepC x.ch (handAt x who))
/-- At most that many steps of one who is not at rest: the world, and how many. -/
def aloneN:Nat→Wo→Int→Wo × Nat
  | 0,x,_=>(x,0)
  | n+1,x,who=>if (handAt x who).pos == 0 then (x,0) else if (step11 x who).2 then ((aloneN n (step11 x who).1 who).1,(aloneN n (step11 x who).1 who).2+1) else (x,0)
def alone (x:Wo) (who most:Int):Wo × Int :=
  if worldOk x && taskOk x who then (if inB most 0 20000 then ((aloneN most.toNat x who).1,(aloneN most.toNat x who).2) else (x,-1)) else (Wo.zero,-1)
def stopped (x:Wo) (who:Int):Wo × Bool :=
  if worldOk x && taskOk x who then
    (if (handAt x who).pos != 23 then (x,false) else ({ x with ch:=tellC x.ch (handAt x who).mine 2 },tellB x.ch (handAt x who).mine 2))
  else (Wo.zero,false)
end Go.Proofs.Ytlfcgeoifmnjnaa
set_option linter.unusedSimpArgs false
set_option linter.unusedVariables false
namespace Go.Proofs.Ytlfcgeoifmnjnaa
open Go.RowKit
theorem rCell {g b:Nat} {w w1:World} (h:w.grownBy w1 (some g)) (hb:b<w.heap.size) (hn:b≠g) (o:Nat):w1.cell? ⟨b,o,none⟩=w.cell? ⟨b,o,none⟩:=World.cell?_of_block (h.block b hb (by simpa using hn))
theorem rFroz {g b:Nat} {w w1:World} (h:w.grownBy w1 (some g)) (hb:b<w.heap.size) (hn:b≠g) (o:Nat):w1.frozen? ⟨b,o,none⟩=w.frozen? ⟨b,o,none⟩:=World.frozen?_of_block (h.block b hb (by simpa using hn))
def intF (l:List Int) (i _j:Nat):Value:=.int .i64 (l.getD i 0)
def flatC (cs:List C3):List Value:=cs.flatMap fun c=>[.int .i64 c.s,.int .i64 c.e,.int .i64 c.t]
theorem flatC_snoc (cs:List C3) (c:C3):flatC (cs ++ [c])=flatC cs ++ [.int .i64 c.s,.int .i64 c.e,.int .i64 c.t]:=by simp [flatC]
theorem flatC_len (cs:List C3):(flatC cs).length=cs.length*3:=by
  induction cs with
  | nil=>rfl
  | cons c cs ih=>simp [flatC] at *;omega
theorem flatC_get:∀ (cs:List C3) (i j:Nat),i<cs.length→j<3→(flatC cs)[i*3+j]?=some (cellF cs i j)
  | [],i,j,hi,_=>by simp at hi
  | c :: cs,0,j,_,hj=>by
    have:j=0∨j=1∨j=2:=by omega
    rcases this with rfl|rfl|rfl <;> simp [flatC,cellF,C3.val]
  | c :: cs,i+1,j,hi,hj=>by
    have h:=flatC_get cs i j (by simpa using hi) hj
    have e:(i+1)*3+j=(i*3+j)+3:=by omega
    rw [e]
    simpa [flatC,cellF] using h
theorem flatC_one (cs:List C3):∀ u ∈ flatC cs,u.oneCell'=true:=by
  intro u hu
  simp only [flatC,List.mem_flatMap] at hu
  obtain ⟨c,_,hc⟩:=hu
  simp at hc
  rcases hc with rfl|rfl|rfl <;> rfl
def ints (l:List Int):List Value:=l.map (Value.int .i64)
theorem ints_one (l:List Int):∀ u ∈ ints l,u.oneCell'=true:=by
  intro u hu
  obtain ⟨x,_,rfl⟩:=List.mem_map.1 hu
  rfl
theorem bOwn {w W w1:World} {lo:Nat} {row:Option Nat} (h:Below lo w W) (hg:W.grownBy w1 row) (hB:lo≤W.heap.size) (hr:∀ k,row=some k→lo≤k):Below lo w w1:=h.grown hg hB hr
/-- The call's own list of cells, of numbers. -/
abbrev OCells (w:World) (lo:Nat) (v:Value) (cs:List C3):Prop:=w.ownsRow lo 93 3 v cs.length (flatC cs)
abbrev OInts (w:World) (lo:Nat) (v:Value) (l:List Int):Prop:=w.ownsRow lo 2 1 v l.length (ints l)
theorem news3 (w:World) (x y z:Value) (t:TypeId):∀ j u,[x,y,z][j]?=some u→(w.alloc (.cells #[x,y,z] t)).cell? ((⟨w.heap.size,0,none⟩:Addr).add j)=some u:=by
  intro j u h
  have hj:j<3:=(List.getElem?_eq_some_iff.1 h).1
  have:j=0∨j=1∨j=2:=by omega
  rcases this with rfl|rfl|rfl <;> simp [Addr.add] at h ⊢ <;> exact h
/-- An own list of cells, of numbers, lies in memory as a list. -/
theorem OCells.seg {w:World} {lo:Nat} {v:Value} {cs:List C3} (h:OCells w lo v cs):∃ (a:Option Addr) (cap:Nat),v=.slice a cs.length cap∧Seg w w.heap.size a cs.length 3 (cellF cs):=by
  rcases h.2 with ⟨rfl,h0⟩|⟨g,cap,cur,rfl,_,hg,_⟩
  · exact ⟨none,0,by rw [h0],.inl h0⟩
  · refine ⟨_,cap,rfl,.inr ⟨g,0,rfl,(Array.getElem?_eq_some_iff.1 hg).1,fun i j hi hj=>?_⟩⟩
    have:=h.cells (g:=g) rfl (i*3+j) _ (flatC_get cs i j hi hj)
    rw [← this]
    congr 1
    by_cases e:i*3+j=0 <;> simp [Addr.add,e] <;> omega
theorem OInts.seg {w:World} {lo:Nat} {v:Value} {l:List Int} (h:OInts w lo v l):∃ (a:Option Addr) (cap:Nat),v=.slice a l.length cap∧Seg w w.heap.size a l.length 1 (intF l):=by
  rcases h.2 with ⟨rfl,h0⟩|⟨g,cap,cur,rfl,_,hg,_⟩
  · exact ⟨none,0,by rw [h0],.inl h0⟩
  · refine ⟨_,cap,rfl,.inr ⟨g,0,rfl,(Array.getElem?_eq_some_iff.1 hg).1,fun i j hi hj=>?_⟩⟩
    have hj0:j=0:=by omega
    subst hj0
    have:=h.cells (g:=g) rfl i (intF l i 0) (by simp [ints,intF,List.getD,hi])
    rw [← this]
    congr 1
    by_cases e:i=0 <;> simp [Addr.add,e] <;> omega
theorem OInts.snoc {w:World} {lo:Nat} {v:Value} {l:List Int} {x:Int} (h:w.ownsRow lo 2 1 v (l.length+1) (ints l ++ [.int .i64 x])):OInts w lo v (l ++ [x]):=by
  have e:ints (l ++ [x])=ints l ++ [.int .i64 x]:=by simp [ints]
  unfold OInts
  rw [e,List.length_append]
  exact h
theorem OCells.snoc {w:World} {lo:Nat} {v:Value} {cs:List C3} {c:C3} (h:w.ownsRow lo 93 3 v (cs.length+1) (flatC cs ++ [.int .i64 c.s,.int .i64 c.e,.int .i64 c.t])):OCells w lo v (cs ++ [c]):=by
  unfold OCells
  rw [flatC_snoc,List.length_append]
  exact h
/-- What lies from an address on, cell by cell. -/
theorem Seg.newsC {w:World} {B b o:Nat} {cs:List C3} (h:Seg w B (some ⟨b,o,none⟩) cs.length 3 (cellF cs)):∀ j u,(flatC cs)[j]?=some u→w.cell? ((⟨b,o,none⟩:Addr).add j)=some u:=by
  intro j u hu
  have hj:j<cs.length*3:=by rw [← flatC_len];exact (List.getElem?_eq_some_iff.1 hu).1
  rcases h with h0|⟨b',o',e,_,hc⟩
  · omega
  · simp at e
    obtain ⟨rfl,rfl⟩:=e
    have e2:j=j / 3*3+j % 3:=by omega
    have h1:=flatC_get cs (j / 3) (j % 3) (by omega) (by omega)
    rw [← e2] at h1
    have h2:=hc (j / 3) (j % 3) (by omega) (by omega)
    rw [h1] at hu
    simp at hu
    rw [← hu,← h2]
    congr 1
    by_cases e:j=0 <;> simp [Addr.add,e] <;> omega
theorem Seg.newsI {w:World} {B b o:Nat} {l:List Int} (h:Seg w B (some ⟨b,o,none⟩) l.length 1 (intF l)):∀ j u,(ints l)[j]?=some u→w.cell? ((⟨b,o,none⟩:Addr).add j)=some u:=by
  intro j u hu
  have hj:j<l.length:=by have:=(List.getElem?_eq_some_iff.1 hu).1;simpa [ints] using this
  rcases h with h0|⟨b',o',e,_,hc⟩
  · omega
  · simp at e
    obtain ⟨rfl,rfl⟩:=e
    have h2:=hc j 0 hj (by omega)
    have:u=intF l j 0:=by simp [ints,hj] at hu;simp [intF,List.getD,hj,← hu]
    rw [this,← h2]
    congr 1
    by_cases e:j=0 <;> simp [Addr.add,e]
/-- An empty row that has just been made. -/
theorem own_made (w:World) (lo:Nat) (e:TypeId) (k:Nat) (h:lo≤w.heap.size):(w.alloc (.cells #[] e)).ownsRow lo e k (.slice (some ⟨w.heap.size,0,none⟩) 0 0) 0 [] :=
  World.ownsRow_made w #[] 0 h (by simp) (by simp)
theorem own_made_at (w:World) (lo:Nat) (e:TypeId) (k n:Nat) (hn:n=w.heap.size) (h:lo≤w.heap.size):(w.alloc (.cells #[] e)).ownsRow lo e k (.slice (some ⟨n,0,none⟩) 0 0) 0 []:=by
  subst hn;exact own_made w lo e k h
theorem cell_alloc_of {w:World} {p:Addr} {u:Value} {o:Obj} (h:w.cell? p=some u):(w.alloc o).cell? p=some u:=by
  rw [World.cell?_alloc_lt _ _ _ (World.block_lt_of_cell? w p h)];exact h
theorem own_lo {w:World} {lo lo':Nat} {e:TypeId} {k n:Nat} {v:Value} {xs:List Value} (h:w.ownsRow lo e k v n xs) (hl:lo'≤lo):w.ownsRow lo' e k v n xs:=by
  refine ⟨h.1,?_⟩
  rcases h.2 with h|⟨g,cap,cur,h1,h2,h3⟩
  · exact .inl h
  · exact .inr ⟨g,cap,cur,h1,Nat.le_trans hl h2,h3⟩
theorem own_ne {w:World} {lo:Nat} {e:TypeId} {k n:Nat} {v:Value} {xs:List Value} (h:w.ownsRow lo e k v n xs) {b:Nat} (hb:b<lo):v.ownBlock≠some b:=fun he=>by have:=(h.lt b he).1;omega
theorem own_below {w w1:World} {lo:Nat} {e:TypeId} {k n:Nat} {v:Value} {xs:List Value} (h:w.ownsRow lo e k v n xs) (hb:Below w.heap.size w w1):w1.ownsRow lo e k v n xs :=
  h.kept (row:=none) ⟨hb.os,hb.tape,hb.output,hb.size,fun i hi _=>hb.block i hi⟩ (by cases v.ownBlock <;> simp)
theorem oAl {w:World} {lo:Nat} {e:TypeId} {k n:Nat} {v:Value} {xs:List Value} (h:w.ownsRow lo e k v n xs) (o:Obj):(w.alloc o).ownsRow lo e k v n xs:=World.ownsRow.alloc h o
theorem oDr {w:World} {lo:Nat} {e:TypeId} {k n:Nat} {v:Value} {xs:List Value} (h:w.ownsRow lo e k v n xs):w.drew.ownsRow lo e k v n xs:=h
theorem own_store {w:World} {lo:Nat} {e:TypeId} {k n:Nat} {v:Value} {xs:List Value} (h:w.ownsRow lo e k v n xs) {p:Addr} (hp:v.ownBlock≠some p.block) (u:Value):(w.setCell p u).ownsRow lo e k v n xs :=
  h.kept (row:=some p.block) ⟨rfl,rfl,rfl,by simp [World.setCell],fun i _ hn=>Below.heap_setCell w p u i (fun e=>hn (by rw [e]))⟩ (.inr hp)
theorem own_set_cell {w:World} {lo:Nat} {e:TypeId} {k g n cap:Nat} {xs:List Value} (h:w.ownsRow lo e k (.slice (some ⟨g,0,none⟩) n cap) n xs) (i:Nat) (hi:i<xs.length) (u:Value) :
    (w.setCell ⟨g,i,none⟩ u).ownsRow lo e k (.slice (some ⟨g,0,none⟩) n cap) n (xs.set i u):=by
  refine ⟨by simpa using h.1,?_⟩
  rcases h.2 with ⟨h0,_⟩|⟨g',cap',cur,h1,h2,h3,h4,h5,h6,h7⟩
  · simp at h0
  · simp at h1
    obtain ⟨rfl,rfl⟩:=h1
    refine .inr ⟨g,cap,cur.setIfInBounds i u,rfl,h2,by simp [World.setCell,Array.getElem?_modify,h3],h4,h5,by simpa using h6,?_⟩
    rw [Array.toList_setIfInBounds,← h7,List.take_set]
theorem ints_set (l:List Int) (i:Nat) (x:Int):ints (l.set i x)=(ints l).set i (.int .i64 x):=by simp [ints,List.map_set]
theorem ints_len (l:List Int):(ints l).length=l.length:=by simp [ints]
theorem flatC_set:∀ (cs:List C3) (i:Nat) (c:C3),flatC (cs.set i c)=(((flatC cs).set (i*3) (.int .i64 c.s)).set (i*3+1) (.int .i64 c.e)).set (i*3+2) (.int .i64 c.t)
  | [],i,c=>by simp [flatC]
  | d :: cs,0,c=>by simp [flatC]
  | d :: cs,i+1,c=>by
    have h:=flatC_set cs i c
    have e0:(i+1)*3=i*3+3:=by omega
    rw [e0]
    simpa [flatC] using h
theorem infoInt:(Try.prog.info? 2).map (fun i=>(i.zero,i.size,i.bytes))=some (some (.int .i64 0),1,8):=by kernel_rfl
/-- Only block g may have turned. -/
abbrev Gr (g:Nat) (w w':World):Prop:=w.grownBy w' (some g)
theorem gR (g:Nat) (w:World):Gr g w w:=⟨rfl,rfl,rfl,Nat.le_refl _,fun _ _ _=>rfl⟩
theorem gD {g:Nat} {w W:World} (h:Gr g w W):Gr g w W.drew:=⟨h.os,h.tape,h.output,h.size,h.block⟩
theorem gDN {g:Nat} {w W:World} (h:Gr g w W) (n:Nat):Gr g w (W.drewN n):=⟨h.os,h.tape,h.output,h.size,h.block⟩
theorem gA {g:Nat} {w W:World} {o:Obj} (h:Gr g w W):Gr g w (W.alloc o):=⟨h.os,h.tape,h.output,Nat.le_trans h.size (by simp),fun k hk hn=>(Below.heap_alloc W o k (Nat.lt_of_lt_of_le hk h.size)).trans (h.block k hk hn)⟩
theorem gS {g:Nat} {w W:World} {p:Addr} {u:Value} (h:Gr g w W) (hp:p.block=g∨w.heap.size≤p.block):Gr g w (W.setCell p u) :=
  ⟨h.os,h.tape,h.output,by simpa [World.setCell] using h.size,fun k hk hn=>(Below.heap_setCell W p u k (by
    rintro rfl
    rcases hp with hp|hp
    · exact hn (by rw [hp])
    · omega)).trans (h.block k hk hn)⟩
theorem gT {g:Nat} {w W w1:World} (h:Gr g w W) (k:Gr g W w1):Gr g w w1 :=
  ⟨k.os.trans h.os,k.tape.trans h.tape,k.output.trans h.output,Nat.le_trans h.size k.size,fun i hi hn=>(k.block i (Nat.lt_of_lt_of_le hi h.size) hn).trans (h.block i hi hn)⟩
theorem bDN {B:Nat} {a w:World} (h:Below B a w) (n:Nat):Below B a (w.drewN n):=⟨h.os,h.tape,h.output,h.size,h.block⟩
theorem gCell {g b:Nat} {w w1:World} (h:Gr g w w1) (hb:b<w.heap.size) (hn:b≠g) (o:Nat):w1.cell? ⟨b,o,none⟩=w.cell? ⟨b,o,none⟩ :=
  World.cell?_of_block (h.block b hb (by simpa using hn))
theorem gFroz {g b:Nat} {w w1:World} (h:Gr g w w1) (hb:b<w.heap.size) (hn:b≠g) (o:Nat):w1.frozen? ⟨b,o,none⟩=w.frozen? ⟨b,o,none⟩ :=
  World.frozen?_of_block (h.block b hb (by simpa using hn))
theorem bG {g:Nat} {w W w1:World} (h:Below w.heap.size w W) (k:Gr g W w1) (hg:w.heap.size≤g):Below w.heap.size w w1 :=
  ⟨k.os.trans h.os,k.tape.trans h.tape,k.output.trans h.output,Nat.le_trans h.size k.size,fun i hi=>(k.block i (Nat.lt_of_lt_of_le hi h.size) (by simp;omega)).trans (h.block i hi)⟩
theorem gOfB {g:Nat} {w w1:World} (h:Below w.heap.size w w1):Gr g w w1:=⟨h.os,h.tape,h.output,h.size,fun i hi _=>h.block i hi⟩
end Go.Proofs.Ytlfcgeoifmnjnaa
set_option linter.unusedSimpArgs false
set_option linter.unusedVariables false
namespace Go.Proofs.Ytlfcgeoifmnjnaa
open Go.RowKit
/-- Block b begins with n elements of k cells each, none frozen; f says what each cell holds. -/
def Lie (w:World) (b n k:Nat) (f:Nat→Nat→Value):Prop :=
  ∃ (c:Array Value) (t:TypeId),w.heap[b]?=some (.cells c t (0,0))∧n*k≤c.size∧∀ i j,i<n→j<k→c[i*k+j]?=some (f i j)
namespace Lie
variable {w w':World} {b n k:Nat} {f g:Nat→Nat→Value}
theorem cell (h:Lie w b n k f) {i j:Nat} (hi:i<n) (hj:j<k):w.cell? ⟨b,i*k+j,none⟩=some (f i j):=by
  obtain ⟨c,t,hb,_,hc⟩:=h
  simp [World.cell?,hb,hc i j hi hj]
theorem frozen (h:Lie w b n k f) (o:Nat):w.frozen? ⟨b,o,none⟩=false:=by
  obtain ⟨c,t,hb,_,_⟩:=h
  simp [World.frozen?,hb]
theorem lt (h:Lie w b n k f):b<w.heap.size:=by
  obtain ⟨c,t,hb,_,_⟩:=h
  exact (Array.getElem?_eq_some_iff.1 hb).1
theorem congr (h:Lie w b n k f) (e:∀ i j,i<n→j<k→f i j=g i j):Lie w b n k g:=by
  obtain ⟨c,t,hb,hn,hc⟩:=h
  exact ⟨c,t,hb,hn,fun i j hi hj=>by rw [hc i j hi hj,e i j hi hj]⟩
theorem of_block (h:Lie w b n k f) (e:w'.heap[b]?=w.heap[b]?):Lie w' b n k f:=by
  obtain ⟨c,t,hb,hn,hc⟩:=h
  exact ⟨c,t,e.trans hb,hn,hc⟩
theorem below {B:Nat} (h:Lie w b n k f) (hb:Below B w w') (hB:b<B):Lie w' b n k f:=h.of_block (hb.block b hB)
theorem set (h:Lie w b n k f) {i j:Nat} (hi:i<n) (hj:j<k) (v:Value):Lie (w.setCell ⟨b,i*k+j,none⟩ v) b n k (fun i' j'=>if i'=i∧j'=j then v else f i' j'):=by
  obtain ⟨c,t,hb,hn,hc⟩:=h
  refine ⟨c.setIfInBounds (i*k+j) v,t,?_,by simpa using hn,fun i' j' hi' hj'=>?_⟩
  · simp [World.setCell,Array.getElem?_modify,hb]
  · rw [Array.getElem?_setIfInBounds]
    by_cases e:i*k+j=i'*k+j'
    · obtain ⟨rfl,rfl⟩:=Row.idx hj hj' e
      have hlt:i*k+j<c.size:=(Array.getElem?_eq_some_iff.1 (hc i j hi hj)).1
      simp [hlt]
    · rw [if_neg e]
      show c[i'*k+j']?=some (if i'=i∧j'=j then v else f i' j')
      rw [if_neg (fun h=>e (by rw [h.1,h.2]))]
      exact hc i' j' hi' hj'
theorem set3 (h:Lie w b n 3 f) {i:Nat} (hi:i<n) (v:Nat→Value) :
    Lie (((w.setCell ⟨b,i*3,none⟩ (v 0)).setCell ⟨b,i*3+1,none⟩ (v 1)).setCell ⟨b,i*3+2,none⟩ (v 2)) b n 3 (fun i' j'=>if i'=i then v j' else f i' j'):=by
  refine (((h.set hi (j:=0) (by omega) (v 0)).set hi (j:=1) (by omega) (v 1)).set hi (j:=2) (by omega) (v 2)).congr fun i' j' _ hj=>?_
  have:j'=0∨j'=1∨j'=2:=by omega
  rcases this with rfl|rfl|rfl <;> by_cases e:i'=i <;> simp [e]
theorem set1 (h:Lie w b n 1 f) {i:Nat} (hi:i<n) (v:Value) :
    Lie (w.setCell ⟨b,i,none⟩ v) b n 1 (fun i' j'=>if i'=i then v else f i' j'):=by
  have h1:=h.set hi (j:=0) (by omega) v
  simp only [Nat.mul_one,Nat.add_zero] at h1
  refine h1.congr fun i' j' _ hj=>?_
  have:j'=0:=by omega
  subst this
  by_cases e:i'=i <;> simp [e]
theorem seg (h:Lie w b n k f):Seg w w.heap.size (some ⟨b,0,none⟩) n k f:=.inr ⟨b,0,rfl,h.lt,fun i j hi hj=>by simpa using h.cell hi hj⟩
end Lie
theorem Row.lie {w:World} {b:Nat} {t:TypeId} {n k:Nat} {f:Nat→Nat→Value} (h:Row w b t n k f):Lie w b n k f:=by
  obtain ⟨c,hb,hn,hc⟩:=h
  exact ⟨c,t,hb,Nat.le_of_eq hn.symm,hc⟩
/-- A list of n elements that is nothing, or lies from the start of a block on that is at or above lo. -/
def New (w:World) (lo:Nat) (v:Value) (n k:Nat) (f:Nat→Nat→Value):Prop :=
  (v=.slice none 0 0∧n=0)∨∃ g cap,v=.slice (some ⟨g,0,none⟩) n cap∧lo≤g∧Lie w g n k f
abbrev NewI (w:World) (lo:Nat) (v:Value) (l:List Int):Prop:=New w lo v l.length 1 (intF l)
abbrev NewC (w:World) (lo:Nat) (v:Value) (cs:List C3):Prop:=New w lo v cs.length 3 (cellF cs)
namespace New
variable {w w1:World} {lo n k:Nat} {v:Value} {f:Nat→Nat→Value}
theorem below (h:New w lo v n k f) (hb:Below w.heap.size w w1):New w1 lo v n k f:=by
  rcases h with h|⟨g,cap,h1,h2,h3⟩
  · exact .inl h
  · exact .inr ⟨g,cap,h1,h2,h3.below hb h3.lt⟩
theorem more {lo':Nat} (h:New w lo v n k f) (hl:lo'≤lo):New w lo' v n k f:=by
  rcases h with h|⟨g,cap,h1,h2,h3⟩
  · exact .inl h
  · exact .inr ⟨g,cap,h1,Nat.le_trans hl h2,h3⟩
theorem kept {row:Option Nat} (h:New w lo v n k f) (hg:w.grownBy w1 row) (hn:row=none∨v.ownBlock≠row):New w1 lo v n k f:=by
  rcases h with h|⟨g,cap,h1,h2,h3⟩
  · exact .inl h
  · refine .inr ⟨g,cap,h1,h2,h3.of_block (hg.block g h3.lt fun e=>?_)⟩
    subst h1
    rcases hn with rfl|hn
    · cases e
    · exact hn (by rw [← e];rfl)
theorem seg (h:New w lo v n k f):∃ a cap,v=.slice a n cap∧Seg w w.heap.size a n k f:=by
  rcases h with ⟨rfl,rfl⟩|⟨g,cap,rfl,_,h3⟩
  · exact ⟨none,0,rfl,.inl rfl⟩
  · exact ⟨_,cap,rfl,h3.seg⟩
theorem lt (h:New w lo v n k f) {b:Nat} (hb:v.ownBlock=some b):lo≤b∧b<w.heap.size:=by
  rcases h with ⟨rfl,_⟩|⟨g,cap,rfl,h2,h3⟩
  · cases hb
  · simp [Value.ownBlock] at hb
    subst hb
    exact ⟨h2,h3.lt⟩
end New
theorem OCells.new {w:World} {lo:Nat} {v:Value} {cs:List C3} (h:OCells w lo v cs):NewC w lo v cs:=by
  rcases h.2 with ⟨h1,h0⟩|⟨g,cap,cur,rfl,hl,hg,h4,h5,h6,h7⟩
  · exact .inl ⟨h1,h0⟩
  · refine .inr ⟨g,cap,rfl,hl,cur,_,hg,?_,fun i j hi hj=>?_⟩
    · have e:=congrArg List.length h7
      rw [List.length_take,flatC_len] at e
      simp at e;omega
    · have:=h.cells (g:=g) rfl (i*3+j) _ (flatC_get cs i j hi hj)
      have e2:(⟨g,0,none⟩:Addr).add (i*3+j)=⟨g,i*3+j,none⟩:=by generalize i*3+j=m;by_cases e:m=0 <;> simp [Addr.add,e]
      rw [e2] at this
      simpa [World.cell?,hg] using this
theorem OInts.new {w:World} {lo:Nat} {v:Value} {l:List Int} (h:OInts w lo v l):NewI w lo v l:=by
  rcases h.2 with ⟨h1,h0⟩|⟨g,cap,cur,rfl,hl,hg,h4,h5,h6,h7⟩
  · exact .inl ⟨h1,h0⟩
  · refine .inr ⟨g,cap,rfl,hl,cur,_,hg,?_,fun i j hi hj=>?_⟩
    · have e:=congrArg List.length h7
      rw [List.length_take,ints_len] at e
      simp at e;omega
    · have hj0:j=0:=by omega
      subst hj0
      have:=h.cells (g:=g) rfl i (intF l i 0) (by simp [ints,intF,List.getD,hi])
      have e2:(⟨g,0,none⟩:Addr).add i=⟨g,i,none⟩:=by by_cases e:i=0 <;> simp [Addr.add,e]
      rw [e2] at this
      simpa [World.cell?,hg] using this
/-- Of what was there, the blocks a and b alone may have turned. -/
def Onl (a b:Option Nat) (w w':World):Prop :=
  w'.os=w.os∧w'.tape=w.tape∧w'.output=w.output∧w.heap.size≤w'.heap.size∧∀ i,i<w.heap.size→some i≠a→some i≠b→w'.heap[i]?=w.heap[i]?
theorem onlB {a b:Option Nat} {w W:World} (h:Below w.heap.size w W):Onl a b w W:=⟨h.os,h.tape,h.output,h.size,fun i hi _ _=>h.block i hi⟩
theorem onlT {a b:Option Nat} {w W w1:World} (h:Onl a b w W) (k:Onl a b W w1):Onl a b w w1 :=
  ⟨k.1.trans h.1,k.2.1.trans h.2.1,k.2.2.1.trans h.2.2.1,Nat.le_trans h.2.2.2.1 k.2.2.2.1,fun i hi h1 h2=>(k.2.2.2.2 i (Nat.lt_of_lt_of_le hi h.2.2.2.1) h1 h2).trans (h.2.2.2.2 i hi h1 h2)⟩
theorem onl1 {a b:Option Nat} {w W:World} (h:w.grownBy W a):Onl a b w W:=⟨h.os,h.tape,h.output,h.size,fun i hi h1 _=>h.block i hi h1⟩
theorem onl2 {a b:Option Nat} {w W:World} (h:w.grownBy W b):Onl a b w W:=⟨h.os,h.tape,h.output,h.size,fun i hi _ h1=>h.block i hi h1⟩
/-- What turned nothing but a and b, both above, made memory only. -/
theorem bOnl {a b:Option Nat} {w W w1:World} (h:Below w.heap.size w W) (k:Onl a b W w1) (ha:∀ i,a=some i→w.heap.size≤i) (hb:∀ i,b=some i→w.heap.size≤i):Below w.heap.size w w1 :=
  ⟨k.1.trans h.os,k.2.1.trans h.tape,k.2.2.1.trans h.output,Nat.le_trans h.size k.2.2.2.1,fun i hi=>(k.2.2.2.2 i (Nat.lt_of_lt_of_le hi h.size) (fun e=>by have:=ha i e.symm;omega) (fun e=>by have:=hb i e.symm;omega)).trans (h.block i hi)⟩
theorem New.keptO {w w1:World} {lo n k:Nat} {v:Value} {f:Nat→Nat→Value} {a b:Option Nat} (h:New w lo v n k f) (ho:Onl a b w w1) (h1:∀ i,v.ownBlock=some i→a≠some i) (h2:∀ i,v.ownBlock=some i→b≠some i):New w1 lo v n k f:=by
  rcases h with h|⟨g,cap,e,h3,h4⟩
  · exact .inl h
  · subst e
    exact .inr ⟨g,cap,rfl,h3,h4.of_block (ho.2.2.2.2 g h4.lt (fun e=>h1 g rfl e.symm) (fun e=>h2 g rfl e.symm))⟩
theorem onlCell {a b:Option Nat} {w w1:World} (ho:Onl a b w w1) {i:Nat} (hi:i<w.heap.size) (h1:some i≠a) (h2:some i≠b) (o:Nat):w1.cell? ⟨i,o,none⟩=w.cell? ⟨i,o,none⟩:=World.cell?_of_block (ho.2.2.2.2 i hi h1 h2)
theorem onlFroz {a b:Option Nat} {w w1:World} (ho:Onl a b w w1) {i:Nat} (hi:i<w.heap.size) (h1:some i≠a) (h2:some i≠b) (o:Nat):w1.frozen? ⟨i,o,none⟩=w.frozen? ⟨i,o,none⟩:=World.frozen?_of_block (ho.2.2.2.2 i hi h1 h2)
theorem grCell {r:Option Nat} {b:Nat} {w w1:World} (h:w.grownBy w1 r) (hb:b<w.heap.size) (hn:some b≠r) (o:Nat):w1.cell? ⟨b,o,none⟩=w.cell? ⟨b,o,none⟩:=World.cell?_of_block (h.block b hb hn)
theorem grA {w W:World} {r:Option Nat} (o:Obj) (h:(w.alloc o).grownBy W r):w.grownBy W r :=
  ⟨h.os,h.tape,h.output,Nat.le_trans (by simp) h.size,fun i hi hn=>(h.block i (by simp;omega) hn).trans (Below.heap_alloc w o i hi)⟩
theorem grFroz {r:Option Nat} {b:Nat} {w w1:World} (h:w.grownBy w1 r) (hb:b<w.heap.size) (hn:some b≠r) (o:Nat):w1.frozen? ⟨b,o,none⟩=w.frozen? ⟨b,o,none⟩:=World.frozen?_of_block (h.block b hb hn)
theorem grB {w W w1:World} {r:Option Nat} (h:Below w.heap.size w W) (k:W.grownBy w1 r):w.grownBy w1 r :=
  ⟨k.os.trans h.os,k.tape.trans h.tape,k.output.trans h.output,Nat.le_trans h.size k.size,fun i hi hn=>(k.block i (Nat.lt_of_lt_of_le hi h.size) hn).trans (h.block i hi)⟩
end Go.Proofs.Ytlfcgeoifmnjnaa
set_option linter.unusedSimpArgs false
set_option linter.unusedVariables false
namespace Go.Proofs.Ytlfcgeoifmnjnaa
open Go.RowKit
/-- A hand as it lies in memory. -/
def hvals (h:Ha):Array Value:=#[.int .i64 h.pos,.int .i64 h.code,.int .i64 h.elem,.int .i64 h.cell,.int .i64 h.seen,.int .i64 h.wait,.int .i64 h.fin,.int .i64 h.come,.int .i64 h.grow,.int .i64 h.mine,.int .i64 h.nxt,.int .i64 h.beg,.int .i64 h.reply,.int .i64 h.out]
theorem hv_ne (h:Ha):(hvals h=#[])=False:=by simp [hvals]
theorem hv_size (h:Ha):(hvals h).size=14:=rfl
theorem hv_get0 (h:Ha):(hvals h)[0]?=some (.int .i64 h.pos):=rfl
theorem hv_set0 (h:Ha) (x:Int):(hvals h).setIfInBounds 0 (.int .i64 x)=hvals { h with pos:=x }:=rfl
theorem hv_get1 (h:Ha):(hvals h)[1]?=some (.int .i64 h.code):=rfl
theorem hv_set1 (h:Ha) (x:Int):(hvals h).setIfInBounds 1 (.int .i64 x)=hvals { h with code:=x }:=rfl
theorem hv_get2 (h:Ha):(hvals h)[2]?=some (.int .i64 h.elem):=rfl
theorem hv_set2 (h:Ha) (x:Int):(hvals h).setIfInBounds 2 (.int .i64 x)=hvals { h with elem:=x }:=rfl
theorem hv_get3 (h:Ha):(hvals h)[3]?=some (.int .i64 h.cell):=rfl
theorem hv_set3 (h:Ha) (x:Int):(hvals h).setIfInBounds 3 (.int .i64 x)=hvals { h with cell:=x }:=rfl
theorem hv_get4 (h:Ha):(hvals h)[4]?=some (.int .i64 h.seen):=rfl
theorem hv_set4 (h:Ha) (x:Int):(hvals h).setIfInBounds 4 (.int .i64 x)=hvals { h with seen:=x }:=rfl
theorem hv_get5 (h:Ha):(hvals h)[5]?=some (.int .i64 h.wait):=rfl
theorem hv_set5 (h:Ha) (x:Int):(hvals h).setIfInBounds 5 (.int .i64 x)=hvals { h with wait:=x }:=rfl
theorem hv_get6 (h:Ha):(hvals h)[6]?=some (.int .i64 h.fin):=rfl
theorem hv_set6 (h:Ha) (x:Int):(hvals h).setIfInBounds 6 (.int .i64 x)=hvals { h with fin:=x }:=rfl
theorem hv_get7 (h:Ha):(hvals h)[7]?=some (.int .i64 h.come):=rfl
theorem hv_set7 (h:Ha) (x:Int):(hvals h).setIfInBounds 7 (.int .i64 x)=hvals { h with come:=x }:=rfl
theorem hv_get8 (h:Ha):(hvals h)[8]?=some (.int .i64 h.grow):=rfl
theorem hv_set8 (h:Ha) (x:Int):(hvals h).setIfInBounds 8 (.int .i64 x)=hvals { h with grow:=x }:=rfl
theorem hv_get9 (h:Ha):(hvals h)[9]?=some (.int .i64 h.mine):=rfl
theorem hv_set9 (h:Ha) (x:Int):(hvals h).setIfInBounds 9 (.int .i64 x)=hvals { h with mine:=x }:=rfl
theorem hv_get10 (h:Ha):(hvals h)[10]?=some (.int .i64 h.nxt):=rfl
theorem hv_set10 (h:Ha) (x:Int):(hvals h).setIfInBounds 10 (.int .i64 x)=hvals { h with nxt:=x }:=rfl
theorem hv_get11 (h:Ha):(hvals h)[11]?=some (.int .i64 h.beg):=rfl
theorem hv_set11 (h:Ha) (x:Int):(hvals h).setIfInBounds 11 (.int .i64 x)=hvals { h with beg:=x }:=rfl
theorem hv_get12 (h:Ha):(hvals h)[12]?=some (.int .i64 h.reply):=rfl
theorem hv_set12 (h:Ha) (x:Int):(hvals h).setIfInBounds 12 (.int .i64 x)=hvals { h with reply:=x }:=rfl
theorem hv_get13 (h:Ha):(hvals h)[13]?=some (.int .i64 h.out):=rfl
theorem hv_set13 (h:Ha) (x:Int):(hvals h).setIfInBounds 13 (.int .i64 x)=hvals { h with out:=x }:=rfl
/-- A channel as it lies in memory, with its lists. -/
def cvals (c:Ch) (v1 v2:Value):Array Value:=#[.int .i64 c.cap,.int .i64 c.sent,.int .i64 c.got,.int .i64 c.fin,v1,v2]
theorem cv_ne (c:Ch) (v1 v2:Value):(cvals c v1 v2=#[])=False:=by simp [cvals]
theorem cv_size (c:Ch) (v1 v2:Value):(cvals c v1 v2).size=6:=rfl
theorem cv_get0 (c:Ch) (v1 v2:Value):(cvals c v1 v2)[0]?=some (.int .i64 c.cap):=rfl
theorem cv_set0 (c:Ch) (v1 v2:Value) (x:Int):(cvals c v1 v2).setIfInBounds 0 (.int .i64 x)=cvals { c with cap:=x } v1 v2:=rfl
theorem cv_get1 (c:Ch) (v1 v2:Value):(cvals c v1 v2)[1]?=some (.int .i64 c.sent):=rfl
theorem cv_set1 (c:Ch) (v1 v2:Value) (x:Int):(cvals c v1 v2).setIfInBounds 1 (.int .i64 x)=cvals { c with sent:=x } v1 v2:=rfl
theorem cv_get2 (c:Ch) (v1 v2:Value):(cvals c v1 v2)[2]?=some (.int .i64 c.got):=rfl
theorem cv_set2 (c:Ch) (v1 v2:Value) (x:Int):(cvals c v1 v2).setIfInBounds 2 (.int .i64 x)=cvals { c with got:=x } v1 v2:=rfl
theorem cv_get3 (c:Ch) (v1 v2:Value):(cvals c v1 v2)[3]?=some (.int .i64 c.fin):=rfl
theorem cv_set3 (c:Ch) (v1 v2:Value) (x:Int):(cvals c v1 v2).setIfInBounds 3 (.int .i64 x)=cvals { c with fin:=x } v1 v2:=rfl
theorem cv_get4 (c:Ch) (v1 v2:Value):(cvals c v1 v2)[4]?=some v1:=rfl
theorem cv_get5 (c:Ch) (v1 v2:Value):(cvals c v1 v2)[5]?=some v2:=rfl
theorem cv_set4 (c:Ch) (v1 v2 x:Value):(cvals c v1 v2).setIfInBounds 4 x=cvals c x v2:=rfl
theorem cv_set5 (c:Ch) (v1 v2 x:Value):(cvals c v1 v2).setIfInBounds 5 x=cvals c v1 x:=rfl
def setBoxO (vs:Array Value):Obj→Obj
  | .cells _ t fr=>.cells vs t fr
  | o=>o
def setCellO (i:Nat) (v:Value):Obj→Obj
  | .cells c t fr=>.cells (c.setIfInBounds i v) t fr
  | o=>o
/-- Block b is written whole. -/
def setBox (w:World) (b:Nat) (vs:Array Value):World:={ w with heap:=w.heap.modify b (setBoxO vs) }
/-- What lies in block b. -/
def hp (w:World) (b:Nat):Option Obj:=w.heap[b]?
def okO (n:Nat):Option Obj→Bool
  | some (.cells c _ fr)=>c.size == n && (fr.1 == 0 && fr.2 == 0)
  | _=>false
def cellsO:Option Obj→Array Value
  | some (.cells c _ _)=>c
  | _=>#[]
theorem setBoxO_cells (vs c:Array Value) (t:TypeId):setBoxO vs (.cells c t)=.cells vs t:=rfl
theorem setCellO_cells (i:Nat) (v:Value) (c:Array Value) (t:TypeId):setCellO i v (.cells c t)=.cells (c.setIfInBounds i v) t:=rfl
theorem okO_cells (n:Nat) (c:Array Value) (t:TypeId):okO n (some (.cells c t))=(c.size == n):=by simp [okO]
theorem cellsO_cells (c:Array Value) (t:TypeId):cellsO (some (.cells c t))=c:=rfl
theorem okO_elim {n:Nat} {o:Option Obj} (h:okO n o=true):∃ c t,o=some (.cells c t)∧c.size=n:=by
  unfold okO at h
  split at h
  · rename_i c t fr
    obtain ⟨f1,f2⟩:=fr
    simp at h
    obtain ⟨h1,rfl,rfl⟩:=h
    exact ⟨c,t,rfl,h1⟩
  · cases h
theorem lt_2 (n:Nat):n<n+1+1:=by omega
theorem lt_3 (n:Nat):n<n+1+1+1:=by omega
theorem lt_4 (n:Nat):n<n+1+1+1+1:=by omega
theorem lt_5 (n:Nat):n<n+1+1+1+1+1:=by omega
variable {w W:World} {b b' n i:Nat} {vs us:Array Value} {v:Value}
theorem bx_size:(setBox w b vs).heap.size=w.heap.size:=by simp [setBox]
theorem bx_heap_at:hp (setBox w b vs) b=(hp w b).map (setBoxO vs):=by simp [hp,setBox,Array.getElem?_modify]
theorem bx_heap_ne (h:b'≠b):(setBox w b vs).heap[b']?=w.heap[b']?:=by simp [setBox,Array.getElem?_modify,Ne.symm h]
theorem bx_heap_lt (h:b'<b):hp (setBox w b vs) b'=hp w b':=bx_heap_ne (by omega)
theorem bx_heap_gt (h:b<b'):hp (setBox w b vs) b'=hp w b':=bx_heap_ne (by omega)
theorem bx_cell_at (h:okO vs.size (hp w b)=true):(setBox w b vs).cell? ⟨b,i,none⟩=vs[i]?:=by
  obtain ⟨c,t,e,_⟩:=okO_elim h
  unfold hp at e
  simp [World.cell?,setBox,Array.getElem?_modify,e,setBoxO]
theorem bx_cell_ne (h:b'≠b):(setBox w b vs).cell? ⟨b',i,none⟩=w.cell? ⟨b',i,none⟩:=World.cell?_of_block (bx_heap_ne h)
theorem bx_cell_lt (h:b'<b):(setBox w b vs).cell? ⟨b',i,none⟩=w.cell? ⟨b',i,none⟩:=bx_cell_ne (by omega)
theorem bx_cell_gt (h:b<b'):(setBox w b vs).cell? ⟨b',i,none⟩=w.cell? ⟨b',i,none⟩:=bx_cell_ne (by omega)
theorem bx_frozen:(setBox w b vs).frozen? ⟨b',i,none⟩=w.frozen? ⟨b',i,none⟩:=by
  simp only [World.frozen?,setBox,Array.getElem?_modify]
  by_cases e:b=b'
  · subst e
    simp only [if_true]
    cases w.heap[b]? with
    | none=>rfl
    | some o=>cases o <;> rfl
  · simp [e]
theorem bx_alloc_at {c:Array Value} {t:TypeId} (hn:n=w.heap.size):setBox (w.alloc (.cells c t)) n vs=w.alloc (.cells vs t):=by
  subst hn
  unfold setBox World.alloc
  congr 1
  apply Array.ext_getElem?
  intro k
  simp only [Array.getElem?_modify,Array.getElem?_push]
  by_cases hk:k=w.heap.size
  · subst hk;simp [setBoxO]
  · simp [hk,Ne.symm hk]
theorem bx_alloc_past {o:Obj} (hn:n<w.heap.size):setBox (w.alloc o) n vs=(setBox w n vs).alloc o:=by
  unfold setBox World.alloc
  congr 1
  apply Array.ext_getElem?
  intro k
  simp only [Array.getElem?_modify,Array.getElem?_push,Array.size_modify]
  by_cases hk:k=w.heap.size
  · subst hk;simp [Nat.ne_of_lt hn]
  · simp [hk]
theorem bx_twice:setBox (setBox w b vs) b us=setBox w b us:=by
  unfold setBox
  congr 1
  apply Array.ext_getElem?
  intro k
  simp only [Array.getElem?_modify]
  by_cases e:b=k
  · subst e
    simp only [if_true]
    cases w.heap[b]? with
    | none=>rfl
    | some o=>cases o <;> rfl
  · simp [e]
theorem bx_setCell:(setBox w b vs).setCell ⟨b,i,none⟩ v=setBox w b (vs.setIfInBounds i v):=by
  unfold setBox World.setCell
  congr 1
  apply Array.ext_getElem?
  intro k
  simp only [Array.getElem?_modify]
  by_cases e:b=k
  · subst e
    simp only [if_true]
    cases w.heap[b]? with
    | none=>rfl
    | some o=>cases o <;> rfl
  · simp [e]
theorem bx_drew:setBox w.drew b vs=(setBox w b vs).drew:=rfl
theorem hp_drew:hp w.drew b=hp w b:=rfl
theorem hp_alloc_at {o:Obj} (hn:n=w.heap.size):hp (w.alloc o) n=some o:=by subst hn;exact heap_alloc_new w o
theorem hp_alloc_past {o:Obj} (hn:n<w.heap.size):hp (w.alloc o) n=hp w n:=Below.heap_alloc w o n hn
theorem hp_set_at:hp (w.setCell ⟨b,i,none⟩ v) b=(hp w b).map (setCellO i v):=by
  simp only [hp,World.setCell,Array.getElem?_modify]
  cases w.heap[b]? with
  | none=>simp
  | some o=>cases o <;> simp [setCellO]
theorem hp_set_lt (h:b'<b):hp (w.setCell ⟨b,i,none⟩ v) b'=hp w b':=Below.heap_setCell w _ v b' (by simp;omega)
theorem hp_set_gt (h:b<b'):hp (w.setCell ⟨b,i,none⟩ v) b'=hp w b':=Below.heap_setCell w _ v b' (by simp;omega)
theorem grHp {r:Option Nat} (h:w.grownBy W r) (hb:b<w.heap.size) (hn:some b≠r):hp W b=hp w b:=h.block b hb hn
theorem onlHp {r r':Option Nat} (h:Onl r r' w W) (hb:i<w.heap.size) (h1:some i≠r) (h2:some i≠r'):hp W i=hp w i:=h.2.2.2.2 i hb h1 h2
theorem bO {w:World} {b:Nat} {cs:Array Value} {t:TypeId} (h:hp w b=some (.cells cs t)):(∀ o,w.cell? ⟨b,o,none⟩=cs[o]?)∧(∀ o,w.frozen? ⟨b,o,none⟩=false)∧b<w.heap.size :=
  ⟨fun o=>cell_of_row w b o cs t _ h,fun o=>by have h2:w.heap[b]?=some (.cells cs t):=h;simp [World.frozen?,h2],(Array.getElem?_eq_some_iff.1 h).1⟩
theorem hpB (h:Below n w W) (hb:b<n):hp W b=hp w b:=h.block b hb
theorem bBx {lo:Nat} (h:Below lo w W) (hb:lo≤b):Below lo w (setBox W b vs) :=
  ⟨h.os,h.tape,h.output,by rw [bx_size];exact h.size,fun k hk=>(bx_heap_ne (by omega)).trans (h.block k hk)⟩
theorem gBx {g:Nat} (h:Gr g w W) (hb:b=g∨w.heap.size≤b):Gr g w (setBox W b vs) :=
  ⟨h.os,h.tape,h.output,by rw [bx_size];exact h.size,fun k hk hn=>(bx_heap_ne (by rcases hb with hb|hb;exact fun e=>hn (by rw [e,hb]);omega)).trans (h.block k hk hn)⟩
theorem own_box {lo:Nat} {e:TypeId} {k m:Nat} {x:Value} {xs:List Value} (h:w.ownsRow lo e k x m xs) (hp:x.ownBlock≠some b):(setBox w b vs).ownsRow lo e k x m xs :=
  h.kept (row:=some b) ⟨rfl,rfl,rfl,by rw [bx_size];exact Nat.le_refl _,fun i _ hn=>bx_heap_ne (fun e=>hn (by rw [e]))⟩ (.inr hp)
theorem rowA {r:Option Nat} {o:Obj} (h:w.grownBy W r):w.grownBy (W.alloc o) r:=⟨h.os,h.tape,h.output,Nat.le_trans h.size (by simp),fun k hk hn=>(Below.heap_alloc W o k (Nat.lt_of_lt_of_le hk h.size)).trans (h.block k hk hn)⟩
theorem rowD {r:Option Nat} (h:w.grownBy W r):w.grownBy W.drew r:=⟨h.os,h.tape,h.output,h.size,h.block⟩
theorem rowS {r:Option Nat} {p:Addr} {u:Value} (h:w.grownBy W r) (hp:w.heap.size≤p.block):w.grownBy (W.setCell p u) r :=
  ⟨h.os,h.tape,h.output,by simpa [World.setCell] using h.size,fun k hk hn=>(Below.heap_setCell W p u k (by omega)).trans (h.block k hk hn)⟩
theorem rowX {r:Option Nat} (h:w.grownBy W r) (hb:w.heap.size≤b):w.grownBy (setBox W b vs) r :=
  ⟨h.os,h.tape,h.output,by rw [bx_size];exact h.size,fun k hk hn=>(bx_heap_ne (by omega)).trans (h.block k hk hn)⟩
theorem oA {r r':Option Nat} {o:Obj} (h:Onl r r' w W):Onl r r' w (W.alloc o) :=
  ⟨h.1,h.2.1,h.2.2.1,Nat.le_trans h.2.2.2.1 (by simp),fun k hk h1 h2=>(Below.heap_alloc W o k (Nat.lt_of_lt_of_le hk h.2.2.2.1)).trans (h.2.2.2.2 k hk h1 h2)⟩
theorem oD {r r':Option Nat} (h:Onl r r' w W):Onl r r' w W.drew:=h
theorem oS {r r':Option Nat} {p:Addr} {u:Value} (h:Onl r r' w W) (hp:w.heap.size≤p.block):Onl r r' w (W.setCell p u) :=
  ⟨h.1,h.2.1,h.2.2.1,by simpa [World.setCell] using h.2.2.2.1,fun k hk h1 h2=>(Below.heap_setCell W p u k (by omega)).trans (h.2.2.2.2 k hk h1 h2)⟩
theorem oX {r r':Option Nat} (h:Onl r r' w W) (hb:w.heap.size≤b):Onl r r' w (setBox W b vs) :=
  ⟨h.1,h.2.1,h.2.2.1,by rw [bx_size];exact h.2.2.2.1,fun k hk h1 h2=>(bx_heap_ne (by omega)).trans (h.2.2.2.2 k hk h1 h2)⟩
/- Loading and storing whole. -/
variable {P:Program} {T:TypeId}
theorem load_box (hA:∀ w,(isAgg T).run P w=.ok true w) (hS:∀ w,(sizeOf T).run P w=.ok n w) (h:okO n (hp w b)=true) :
    (loadVar T ⟨b,0,none⟩).run P w=.ok (.agg (cellsO (hp w b))) w:=by
  unfold hp at *
  obtain ⟨c,t,e,hc⟩:=okO_elim h
  have h1:(loadCells ⟨b,0,none⟩ c.toList.length).run P w=.ok c.toList.toArray w:=run_loadCells_list w ⟨b,0,none⟩ c.toList (fun j v hj=>by
    have e2:(⟨b,0,none⟩:Addr).add j=⟨b,j,none⟩:=by by_cases h0:j=0 <;> simp [Addr.add,h0]
    rw [e2]
    simp only [World.cell?,e]
    simpa using hj)
  simp only [Array.length_toList,hc] at h1
  rw [e,cellsO_cells]
  simp only [loadVar,Sem.run_bind,hA,hS,Result.andThen_ok,if_true,h1,Sem.run_pure]
theorem setCells_heap (b:Nat):∀ (l:List Value) (o:Nat) (w:World),w.setCells b o l={ w with heap:=w.heap.modify b (fun x=>match x with|.cells c t fr=>.cells ((l.zipIdx o).foldl (fun c p=>c.setIfInBounds p.2 p.1) c) t fr|x=>x) }
  | [],o,w=>by
    unfold World.setCells
    have e:w.heap.modify b (fun x=>match x with|.cells c t fr=>.cells ((([]:List Value).zipIdx o).foldl (fun c p=>c.setIfInBounds p.2 p.1) c) t fr|x=>x)=w.heap:=by
      apply Array.ext_getElem?
      intro k
      simp only [Array.getElem?_modify]
      by_cases e:b=k
      · subst e
        simp only [if_true]
        cases w.heap[b]? with
        | none=>rfl
        | some x=>cases x <;> rfl
      · simp [e]
    rw [e]
  | v :: l,o,w=>by
    unfold World.setCells
    rw [setCells_heap b l (o+1)]
    simp only [World.setCell]
    congr 1
    apply Array.ext_getElem?
    intro k
    simp only [Array.getElem?_modify]
    by_cases e:b=k
    · subst e
      simp only [if_true]
      cases w.heap[b]? with
      | none=>rfl
      | some x=>cases x <;> simp [List.zipIdx_cons]
    · simp [e]
theorem fold_get:∀ (l:List Value) (o:Nat) (c:Array Value) (k:Nat),o+l.length≤c.size→((l.zipIdx o).foldl (fun c p=>c.setIfInBounds p.2 p.1) c)[k]?=if o≤k∧k<o+l.length then l[k - o]? else c[k]?
  | [],o,c,k,_=>by
    have:¬ (o≤k∧k<o+([]:List Value).length):=by simp
    rw [if_neg this];rfl
  | v :: l,o,c,k,h=>by
    simp only [List.zipIdx_cons,List.foldl_cons,List.length_cons] at *
    rw [fold_get l (o+1) _ k (by rw [Array.size_setIfInBounds];omega)]
    by_cases e:k=o
    · subst e
      rw [if_neg (by omega),if_pos (by omega),Array.getElem?_setIfInBounds,if_pos rfl,if_pos (by omega)];simp
    · by_cases e2:o+1≤k∧k<o+1+l.length
      · rw [if_pos e2,if_pos (by omega)]
        obtain ⟨m,rfl⟩:∃ m,k=o+1+m:=⟨k - (o+1),by omega⟩
        rw [show o+1+m - (o+1)=m by omega,show o+1+m - o=m+1 by omega];rfl
      · rw [if_neg e2,if_neg (by omega),Array.getElem?_setIfInBounds,if_neg (fun h=>e h.symm)]
theorem fold_all (vs c:Array Value) (h:c.size=vs.size):((vs.toList.zipIdx 0).foldl (fun c p=>c.setIfInBounds p.2 p.1) c)=vs:=by
  apply Array.ext_getElem?
  intro k
  rw [fold_get _ _ _ _ (by simp;omega)]
  by_cases e:k<vs.size
  · rw [if_pos (by simp;omega)];simp
  · rw [if_neg (by simp;omega),Array.getElem?_eq_none (by omega),Array.getElem?_eq_none (by omega)]
theorem store_cells (h:okO n (hp w b)=true) (hv:vs.size=n) (h1:∀ v ∈ vs.toList,v.oneCell'=true) :
    (storeCells ⟨b,0,none⟩ vs.toList).run P w=.ok () (setBox w b vs):=by
  unfold hp at h
  obtain ⟨c,t,e,hc⟩:=okO_elim h
  have h2:=run_storeCells_cells (P:=P) b 0 vs.toList 0 w (fun j hj=>by
      have:j<c.size:=by rw [hc,← hv];simpa using hj
      simp [World.cell?,e,this]) (fun j hj=>by simp [World.frozen?,e]) h1
  have h3:w.setCells b (0+0) vs.toList=setBox w b vs:=by
    rw [setCells_heap]
    unfold setBox
    congr 1
    apply Array.ext_getElem?
    intro k
    simp only [Array.getElem?_modify]
    by_cases ek:b=k
    · subst ek
      simp only [if_true,e,Option.map_some,setBoxO]
      rw [fold_all vs c (by omega)]
    · simp [ek]
  rw [h3] at h2
  exact h2
theorem store_box (hS:∀ w,(sizeOf T).run P w=.ok n w) (h:okO n (hp w b)=true) (hv:vs.size=n) (h1:∀ v ∈ vs.toList,v.oneCell'=true) :
    (storeVar T ⟨b,0,none⟩ (.agg vs)).run P w=.ok () (setBox w b vs):=by
  have h2:=store_cells (P:=P) h hv h1
  simp only [storeVar,Sem.run_bind,hS,Result.andThen_ok,Value.cells,hv,ne_eq,not_true_eq_false,if_false]
  simpa using h2
/- Results that lie in memory. -/
variable {fn:Func} {p q u:Tmp} {S:TypeId} {tmps:Array Value} {a a':Addr} {x y:Value}
theorem res_c (h:fn.results=#[.cell p T]) (hp:tmps.getD p undef=.pointer (some a)) (hl:(loadVar T a).run P w=.ok x w):(results fn tmps).run P w=.ok x w:=by
  simp only [results,h]
  simp [Sem.run_bind,Result.andThen,asAddr] at *
  simp [hp,hl]
theorem res_ct (h:fn.results=#[.cell p T,.tmp u]) (hp:tmps.getD p undef=.pointer (some a)) (hl:(loadVar T a).run P w=.ok x w):(results fn tmps).run P w=.ok (.tuple #[x,tmps.getD u undef]) w:=by
  simp only [results,h]
  simp [Sem.run_bind,Result.andThen,asAddr] at *
  simp [hp,hl]
theorem res_cc (h:fn.results=#[.cell p T,.cell q S]) (hp:tmps.getD p undef=.pointer (some a)) (hl:(loadVar T a).run P w=.ok x w) (hp':tmps.getD q undef=.pointer (some a')) (hl':(loadVar S a').run P w=.ok y w):(results fn tmps).run P w=.ok (.tuple #[x,y]) w:=by
  simp only [results,h]
  simp [Sem.run_bind,Result.andThen,asAddr] at *
  simp [hp,hl,hp',hl']
theorem res_cct (h:fn.results=#[.cell p T,.cell q S,.tmp u]) (hp:tmps.getD p undef=.pointer (some a)) (hl:(loadVar T a).run P w=.ok x w) (hp':tmps.getD q undef=.pointer (some a')) (hl':(loadVar S a').run P w=.ok y w):(results fn tmps).run P w=.ok (.tuple #[x,y,tmps.getD u undef]) w:=by
  simp only [results,h]
  simp [Sem.run_bind,Result.andThen,asAddr] at *
  simp [hp,hl,hp',hl']
end Go.Proofs.Ytlfcgeoifmnjnaa
set_option linter.unusedSimpArgs false
set_option linter.unusedVariables false
namespace Go.Proofs.Ytlfcgeoifmnjnaa
open Go.RowKit
theorem infoHand:(Try.prog.info? 27).map (fun i=>(i.zero,i.size,i.bytes))=some (some (.agg (hvals Ha.zero)),14,112):=by kernel_rfl
theorem infoChan:(Try.prog.info? 54).map (fun i=>(i.zero,i.size,i.bytes))=some (some (.agg (cvals Ch.zero (.slice none 0 0) (.slice none 0 0))),6,80):=by kernel_rfl
theorem zeroHand (w:World):(zeroValue 27).run Try.prog w=.ok (.agg (hvals Ha.zero)) w:=by
  obtain ⟨i,hi,hz,_⟩:=info_parts infoHand
  have e:Try.prog.info? 27=some Try.t27:=by kernel_rfl
  obtain rfl:Try.t27=i:=by rw [e] at hi;exact Option.some.inj hi
  simp [zeroValue,go_sem,hz]
theorem zeroChan (w:World):(zeroValue 54).run Try.prog w=.ok (.agg (cvals Ch.zero (.slice none 0 0) (.slice none 0 0))) w:=by
  obtain ⟨i,hi,hz,_⟩:=info_parts infoChan
  have e:Try.prog.info? 54=some Try.t54:=by kernel_rfl
  obtain rfl:Try.t54=i:=by rw [e] at hi;exact Option.some.inj hi
  simp [zeroValue,go_sem,hz]
theorem aggHand (w:World):(isAgg 27).run Try.prog w=.ok true w:=by simp [isAgg,go_sem]
theorem aggChan (w:World):(isAgg 54).run Try.prog w=.ok true w:=by simp [isAgg,go_sem]
theorem szHand (w:World):(sizeOf 27).run Try.prog w=.ok 14 w:=by simp [go_sem]
theorem szChanT (w:World):(sizeOf 54).run Try.prog w=.ok 6 w:=by simp [go_sem]
variable {w:World} {b:Nat}
theorem loadHandV (h:okO 14 (hp w b)=true):(loadVar 27 ⟨b,0,none⟩).run Try.prog w=.ok (.agg (cellsO (hp w b))) w:=load_box aggHand szHand h
theorem loadChanV (h:okO 6 (hp w b)=true):(loadVar 54 ⟨b,0,none⟩).run Try.prog w=.ok (.agg (cellsO (hp w b))) w:=load_box aggChan szChanT h
theorem loadHand (h:okO 14 (hp w b)=true):(Instr.loadAt 27 (.pointer (some ⟨b,0,none⟩))).run Try.prog w=.ok (.agg (cellsO (hp w b))) w:=by
  simp only [Instr.loadAt,Instr.sureAddr,Sem.run_bind,Sem.run_pure,Result.andThen_ok,loadHandV h]
theorem loadChan (h:okO 6 (hp w b)=true):(Instr.loadAt 54 (.pointer (some ⟨b,0,none⟩))).run Try.prog w=.ok (.agg (cellsO (hp w b))) w:=by
  simp only [Instr.loadAt,Instr.sureAddr,Sem.run_bind,Sem.run_pure,Result.andThen_ok,loadChanV h]
theorem storeHand (x:Ha) (h:okO 14 (hp w b)=true):(Instr.storeAt 27 (.pointer (some ⟨b,0,none⟩)) (.agg (hvals x))).run Try.prog w=.ok () (setBox w b (hvals x)):=by
  simp only [Instr.storeAt,Instr.sureAddr,Sem.run_bind,Sem.run_pure,Result.andThen_ok]
  exact store_box szHand h rfl (by simp [hvals,Value.oneCell'])
theorem storeChan (c:Ch) (x y:Option Addr) (n p m q:Nat) (h:okO 6 (hp w b)=true):(Instr.storeAt 54 (.pointer (some ⟨b,0,none⟩)) (.agg (cvals c (.slice x n p) (.slice y m q)))).run Try.prog w=.ok () (setBox w b (cvals c (.slice x n p) (.slice y m q))):=by
  simp only [Instr.storeAt,Instr.sureAddr,Sem.run_bind,Sem.run_pure,Result.andThen_ok]
  exact store_box szChanT h rfl (by simp [cvals,Value.oneCell'])
theorem storeHandC (x:Ha) (h:okO 14 (hp w b)=true):(storeCells ⟨b,0,none⟩ (hvals x).toList).run Try.prog w=.ok () (setBox w b (hvals x)):=store_cells h rfl (by simp [hvals,Value.oneCell'])
theorem storeChanC (c:Ch) (x y:Option Addr) (n p m q:Nat) (h:okO 6 (hp w b)=true):(storeCells ⟨b,0,none⟩ (cvals c (.slice x n p) (.slice y m q)).toList).run Try.prog w=.ok () (setBox w b (cvals c (.slice x n p) (.slice y m q))):=store_cells h rfl (by simp [cvals,Value.oneCell'])
/-- Loading whole, as one word. -/
def LHand (x:Value):Sem Value:=Instr.loadAt 27 x
def VHand (x:Addr):Sem Value:=loadVar 27 x
theorem toLHand (x:Value):Instr.loadAt 27 x=LHand x:=by unfold LHand;simp
theorem toVHand (x:Addr):loadVar 27 x=VHand x:=by unfold VHand;simp
theorem runLHand (h:okO 14 (hp w b)=true):(LHand (.pointer (some ⟨b,0,none⟩))).run Try.prog w=.ok (.agg (cellsO (hp w b))) w:=loadHand h
theorem runVHand (h:okO 14 (hp w b)=true):(VHand ⟨b,0,none⟩).run Try.prog w=.ok (.agg (cellsO (hp w b))) w:=loadHandV h
/-- Loading whole, as one word. -/
def LChan (x:Value):Sem Value:=Instr.loadAt 54 x
def VChan (x:Addr):Sem Value:=loadVar 54 x
theorem toLChan (x:Value):Instr.loadAt 54 x=LChan x:=by unfold LChan;simp
theorem toVChan (x:Addr):loadVar 54 x=VChan x:=by unfold VChan;simp
theorem runLChan (h:okO 6 (hp w b)=true):(LChan (.pointer (some ⟨b,0,none⟩))).run Try.prog w=.ok (.agg (cellsO (hp w b))) w:=loadChan h
theorem runVChan (h:okO 6 (hp w b)=true):(VChan ⟨b,0,none⟩).run Try.prog w=.ok (.agg (cellsO (hp w b))) w:=loadChanV h
theorem ldHand (x:Ha) (h:hp w b=some (.cells (hvals x) 27)):(loadVar 27 ⟨b,0,none⟩).run Try.prog w=.ok (.agg (hvals x)) w:=by
  have:=loadHandV (w:=w) (b:=b) (by rw [h];simp [okO,hv_size])
  rw [h] at this
  exact this
theorem ldChan (c:Ch) (x y:Value) (h:hp w b=some (.cells (cvals c x y) 54)):(loadVar 54 ⟨b,0,none⟩).run Try.prog w=.ok (.agg (cvals c x y)) w:=by
  have:=loadChanV (w:=w) (b:=b) (by rw [h];simp [okO,cv_size])
  rw [h] at this
  exact this
attribute [go_sem] runLHand runVHand bx_size bx_heap_at bx_heap_lt bx_heap_gt bx_cell_at bx_cell_lt bx_cell_gt bx_frozen bx_alloc_at bx_alloc_past bx_twice bx_setCell bx_drew hp_drew hp_alloc_at hp_alloc_past hp_set_at hp_set_lt hp_set_gt okO_cells cellsO_cells setBoxO_cells setCellO_cells Option.map_some lt_2 lt_3 lt_4 lt_5 hv_ne hv_size hv_get0 hv_set0 hv_get1 hv_set1 hv_get2 hv_set2 hv_get3 hv_set3 hv_get4 hv_set4 hv_get5 hv_set5 hv_get6 hv_set6 hv_get7 hv_set7 hv_get8 hv_set8 hv_get9 hv_set9 hv_get10 hv_set10 hv_get11 hv_set11 hv_get12 hv_set12 hv_get13 hv_set13
attribute [go_sem] runLChan runVChan cv_ne cv_size cv_get0 cv_set0 cv_get1 cv_set1 cv_get2 cv_set2 cv_get3 cv_set3 cv_get4 cv_set4 cv_get5 cv_set5
end Go.Proofs.Ytlfcgeoifmnjnaa
