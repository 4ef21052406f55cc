/-
  Worlds whose lists lie in a range of blocks of the call's own; the laws' helpers that write numbers into them and look for them; lists of at most 1048576 elements.
  The laws' helpers that write numbers into a world of the call's own and look for them; lists of at most 1048576 elements.
  A drawn region by an invariant: what has come up is a function to Bool, what lies in the slots a function to values; each operation is carried out once, whatever came up before it; no condition.
  Boxes of a call's own, by what points at them; no condition.
  Worlds of the program and of the laws, loaded and stored whole; no condition.
  The exact laws of chapter 11 return true, whatever they are called with, and turn nothing that was there; the lists hold at most as much as memory can hold.
-/
import Derived.Test.YtgpdocmclkpknaaP06
import Derived.Test.YtgpdocmclkpknaaP01
import Derived.Deep.RegionHeld3
import Derived.Test.YtgpdocmclkpknaaP02
import Derived.Deep.DeepCutAuto
set_option linter.unusedSimpArgs false
set_option linter.unusedVariables false
namespace Go.Proofs.Ytgpdocmclkpknaa
open Go.RowKit
set_option linter.unusedSimpArgs false
/-- Of what was there the blocks from lo to below hi alone may have turned. -/
def OnlR (lo hi:Nat) (w w':World):Prop:=w'.os=w.os∧w'.tape=w.tape∧w'.output=w.output∧w.heap.size≤w'.heap.size∧∀ i,i<w.heap.size→(i<lo∨hi≤i)→w'.heap[i]?=w.heap[i]?
theorem OnlR.below {lo hi:Nat} {w W W':World} {B:Nat} (h:Below B w W) (k:OnlR lo hi W W') (hB:B≤lo) (hs:B≤W.heap.size):Below B w W':=⟨k.1.trans h.os,k.2.1.trans h.tape,k.2.2.1.trans h.output,Nat.le_trans h.size k.2.2.2.1,fun i hi=>(k.2.2.2.2 i (Nat.lt_of_lt_of_le hi hs) (.inl (Nat.lt_of_lt_of_le hi hB))).trans (h.block i hi)⟩
theorem OnlR.cell {lo hi:Nat} {w w':World} (k:OnlR lo hi w w') {i:Nat} (h:i<w.heap.size) (hr:i<lo∨hi≤i) (o:Nat):w'.cell? ⟨i,o,none⟩=w.cell? ⟨i,o,none⟩:=World.cell?_of_block (k.2.2.2.2 i h hr)
theorem OnlR.frozen {lo hi:Nat} {w w':World} (k:OnlR lo hi w w') {i:Nat} (h:i<w.heap.size) (hr:i<lo∨hi≤i) (o:Nat):w'.frozen? ⟨i,o,none⟩=w.frozen? ⟨i,o,none⟩:=by
  unfold World.frozen?
  rw [k.2.2.2.2 i h hr]
theorem OnlR.trans {lo hi:Nat} {w W w':World} (h:OnlR lo hi w W) (k:OnlR lo hi W w'):OnlR lo hi w w':=⟨k.1.trans h.1,k.2.1.trans h.2.1,k.2.2.1.trans h.2.2.1,Nat.le_trans h.2.2.2.1 k.2.2.2.1,fun i hi hr=>(k.2.2.2.2 i (Nat.lt_of_lt_of_le hi h.2.2.2.1) hr).trans (h.2.2.2.2 i hi hr)⟩
theorem OnlR.of_below {lo hi:Nat} {w w':World} (h:Below w.heap.size w w'):OnlR lo hi w w':=⟨h.os,h.tape,h.output,h.size,fun i hi _=>h.block i hi⟩
theorem OnlR.of_grown {lo hi:Nat} {w w':World} {v:Value} (h:w.grownBy w' v.ownBlock) (hr:∀ i,v.ownBlock=some i→lo≤i∧i<hi):OnlR lo hi w w':=⟨h.os,h.tape,h.output,h.size,fun i hi hn=>h.block i hi fun e=>by have:=hr i e.symm;omega⟩
theorem OnlR.of_onl {lo hi:Nat} {w w':World} {v v':Value} (h:Onl v.ownBlock v'.ownBlock w w') (hr:∀ i,v.ownBlock=some i→lo≤i∧i<hi) (hr':∀ i,v'.ownBlock=some i→lo≤i∧i<hi):OnlR lo hi w w':=⟨h.1,h.2.1,h.2.2.1,h.2.2.2.1,fun i hi hn=>h.2.2.2.2 i hi (fun e=>by have:=hr i e.symm;omega) (fun e=>by have:=hr' i e.symm;omega)⟩
/-- Of what was there the blocks of which P speaks alone may have turned. -/
def OnlP (P:Nat→Prop) (w w':World):Prop:=w'.os=w.os∧w'.tape=w.tape∧w'.output=w.output∧w.heap.size≤w'.heap.size∧∀ i,i<w.heap.size→¬ P i→w'.heap[i]?=w.heap[i]?
theorem OnlP.cell {P:Nat→Prop} {w w':World} (k:OnlP P w w') {i:Nat} (h:i<w.heap.size) (hr:¬ P i) (o:Nat):w'.cell? ⟨i,o,none⟩=w.cell? ⟨i,o,none⟩:=World.cell?_of_block (k.2.2.2.2 i h hr)
theorem OnlP.trans {P:Nat→Prop} {w W w':World} (h:OnlP P w W) (k:OnlP P W w'):OnlP P w w':=⟨k.1.trans h.1,k.2.1.trans h.2.1,k.2.2.1.trans h.2.2.1,Nat.le_trans h.2.2.2.1 k.2.2.2.1,fun i hi hr=>(k.2.2.2.2 i (Nat.lt_of_lt_of_le hi h.2.2.2.1) hr).trans (h.2.2.2.2 i hi hr)⟩
theorem OnlP.of_below {P:Nat→Prop} {w w':World} (h:Below w.heap.size w w'):OnlP P w w':=⟨h.os,h.tape,h.output,h.size,fun i hi _=>h.block i hi⟩
theorem OnlP.of_grown {P:Nat→Prop} {w w':World} {v:Value} (h:w.grownBy w' v.ownBlock) (hr:∀ i,v.ownBlock=some i→P i):OnlP P w w':=⟨h.os,h.tape,h.output,h.size,fun i hi hn=>h.block i hi fun e=>hn (hr i e.symm)⟩
theorem OnlP.of_onl {P:Nat→Prop} {w w':World} {v v':Value} (h:Onl v.ownBlock v'.ownBlock w w') (hr:∀ i,v.ownBlock=some i→P i) (hr':∀ i,v'.ownBlock=some i→P i):OnlP P w w':=⟨h.1,h.2.1,h.2.2.1,h.2.2.2.1,fun i hi hn=>h.2.2.2.2 i hi (fun e=>hn (hr i e.symm)) (fun e=>hn (hr' i e.symm))⟩
theorem OnlP.toR {P:Nat→Prop} {lo hi:Nat} {w w':World} (h:OnlP P w w') (hP:∀ i,P i→lo≤i∧i<hi):OnlR lo hi w w':=⟨h.1,h.2.1,h.2.2.1,h.2.2.2.1,fun i hi hn=>h.2.2.2.2 i hi fun e=>by have:=hP i e;omega⟩
/-- It is a block of one of four lists. -/
def OfW (a b d e:Option Addr) (i:Nat):Prop:=(Value.slice a 0 0).ownBlock=some i∨(Value.slice b 0 0).ownBlock=some i∨(Value.slice d 0 0).ownBlock=some i∨(Value.slice e 0 0).ownBlock=some i
/-- A list's block lies below hi. -/
def Lt (hi:Nat) (a:Option Addr):Prop:=∀ i,(Value.slice a 0 0).ownBlock=some i→i<hi
theorem ownBlock_len (a:Option Addr) (n p:Nat):(Value.slice a n p).ownBlock=(Value.slice a 0 0).ownBlock:=by rcases a with _|⟨i,_|o,k⟩ <;> rfl
theorem New.keptR {w w':World} {lo lo' hi' n k p:Nat} {a:Option Addr} {f:Nat→Nat→Value} (h:New w lo (.slice a n p) n k f) (ho:OnlR lo' hi' w w') (hr:(∀ i,(Value.slice a 0 0).ownBlock=some i→i<lo'∨hi'≤i)):New w' lo (.slice a n p) n k f:=by
  rcases h with h|⟨g,cap,e,h3,h4⟩
  · exact .inl h
  · refine .inr ⟨g,cap,e,h3,h4.of_block (ho.2.2.2.2 g h4.lt (hr g ?_))⟩
    simp at e
    rw [e.1];rfl
/-- A world's lists lie in four blocks from lo to below hi. -/
def NewW (w:World) (lo hi:Nat) (x:Wo) (a b d e:Option Addr) (p q r s:Nat):Prop:=(New w lo (.slice a x.ch.cells.length p) x.ch.cells.length 3 (cellF x.ch.cells)∧New w lo (.slice b x.ch.words.length q) x.ch.words.length 1 (intF x.ch.words)∧New w lo (.slice d x.hands.length r) x.hands.length 14 (handF x.hands)∧New w lo (.slice e x.deals.length s) x.deals.length 7 (dealF x.deals))∧(Lt hi a∧Lt hi b∧Lt hi d∧Lt hi e)
/-- A world's lists hold the numbers that were written. -/
def MkW (w:World) (lo hi:Nat) (x:Wo) (a b d e:Option Addr) (p q r s:Nat):Prop:=(New w lo (.slice a x.ch.cells.length p) x.ch.cells.length 3 (cellF (marksC 1 x.ch.cells.length))∧New w lo (.slice b x.ch.words.length q) x.ch.words.length 1 (intF (marksI (1+3*(x.ch.cells.length:Int)) x.ch.words.length))∧New w lo (.slice d x.hands.length r) x.hands.length 14 (numF 14 (1+3*(x.ch.cells.length:Int)+x.ch.words.length))∧New w lo (.slice e x.deals.length s) x.deals.length 7 (numF 7 (1+3*(x.ch.cells.length:Int)+x.ch.words.length+14*x.hands.length)))∧(Lt hi a∧Lt hi b∧Lt hi d∧Lt hi e)
/-- The four lists lie apart. -/
def Apart (a b d e:Option Addr):Prop:=(∀ i,(Value.slice a 0 0).ownBlock=some i→(Value.slice b 0 0).ownBlock≠some i∧(Value.slice d 0 0).ownBlock≠some i∧(Value.slice e 0 0).ownBlock≠some i)∧(∀ i,(Value.slice b 0 0).ownBlock=some i→(Value.slice d 0 0).ownBlock≠some i∧(Value.slice e 0 0).ownBlock≠some i)∧(∀ i,(Value.slice d 0 0).ownBlock=some i→(Value.slice e 0 0).ownBlock≠some i)
def wsum (x:Wo):Int:=1+3*(x.ch.cells.length:Int)+x.ch.words.length+14*x.hands.length+7*x.deals.length
theorem New.lo' {w:World} {lo n k p:Nat} {a:Option Addr} {f:Nat→Nat→Value} (h:New w lo (.slice a n p) n k f):∀ i,(Value.slice a 0 0).ownBlock=some i→lo≤i∧i<w.heap.size:=fun i hi=>h.lt (by rw [ownBlock_len];exact hi)
theorem NewW.keptR {w w':World} {lo hi:Nat} {x:Wo} {a b d e:Option Addr} {p q r s:Nat} {lo' hi':Nat} (h:NewW w lo hi x a b d e p q r s) (ho:OnlR lo' hi' w w') (hr:hi≤lo'∨hi'≤lo):NewW w' lo hi x a b d e p q r s:=by
  obtain ⟨⟨h1,h2,h3,h4⟩,l1,l2,l3,l4⟩:=h
  have A:∀ {z:Option Addr},(∀ i,(Value.slice z 0 0).ownBlock=some i→lo≤i∧i<w.heap.size)→Lt hi z→∀ i,(Value.slice z 0 0).ownBlock=some i→i<lo'∨hi'≤i:=fun h k i e=>by have:=h i e;have:=k i e;omega
  exact ⟨⟨h1.keptR ho (A h1.lo' l1),h2.keptR ho (A h2.lo' l2),h3.keptR ho (A h3.lo' l3),h4.keptR ho (A h4.lo' l4)⟩,l1,l2,l3,l4⟩
theorem MkW.keptR {w w':World} {lo hi:Nat} {x:Wo} {a b d e:Option Addr} {p q r s:Nat} {lo' hi':Nat} (h:MkW w lo hi x a b d e p q r s) (ho:OnlR lo' hi' w w') (hr:hi≤lo'∨hi'≤lo):MkW w' lo hi x a b d e p q r s:=by
  obtain ⟨⟨h1,h2,h3,h4⟩,l1,l2,l3,l4⟩:=h
  have A:∀ {z:Option Addr},(∀ i,(Value.slice z 0 0).ownBlock=some i→lo≤i∧i<w.heap.size)→Lt hi z→∀ i,(Value.slice z 0 0).ownBlock=some i→i<lo'∨hi'≤i:=fun h k i e=>by have:=h i e;have:=k i e;omega
  exact ⟨⟨h1.keptR ho (A h1.lo' l1),h2.keptR ho (A h2.lo' l2),h3.keptR ho (A h3.lo' l3),h4.keptR ho (A h4.lo' l4)⟩,l1,l2,l3,l4⟩
theorem NewW.below {w w':World} {lo hi:Nat} {x:Wo} {a b d e:Option Addr} {p q r s:Nat} (h:NewW w lo hi x a b d e p q r s) (hb:Below w.heap.size w w'):NewW w' lo hi x a b d e p q r s:=⟨⟨h.1.1.below hb,h.1.2.1.below hb,h.1.2.2.1.below hb,h.1.2.2.2.below hb⟩,h.2⟩
theorem MkW.below {w w':World} {lo hi:Nat} {x:Wo} {a b d e:Option Addr} {p q r s:Nat} (h:MkW w lo hi x a b d e p q r s) (hb:Below w.heap.size w w'):MkW w' lo hi x a b d e p q r s:=⟨⟨h.1.1.below hb,h.1.2.1.below hb,h.1.2.2.1.below hb,h.1.2.2.2.below hb⟩,h.2⟩
theorem New.segS {w:World} {lo n k p:Nat} {a:Option Addr} {f:Nat→Nat→Value} (h:New w lo (.slice a n p) n k f):Seg w w.heap.size a n k f:=by
  obtain ⟨a',cap',e,hs⟩:=h.seg
  simp at e
  obtain ⟨rfl,rfl⟩:=e
  exact hs
theorem NewW.ofW {w w':World} {lo hi:Nat} {x:Wo} {a b d e:Option Addr} {p q r s:Nat} (h:NewW w lo hi x a b d e p q r s) (i:Nat) (ho:OfW a b d e i):lo≤i∧i<hi∧i<w.heap.size:=by
  obtain ⟨⟨h1,h2,h3,h4⟩,l1,l2,l3,l4⟩:=h
  rcases ho with o|o|o|o
  · exact ⟨(h1.lo' i o).1,l1 i o,(h1.lo' i o).2⟩
  · exact ⟨(h2.lo' i o).1,l2 i o,(h2.lo' i o).2⟩
  · exact ⟨(h3.lo' i o).1,l3 i o,(h3.lo' i o).2⟩
  · exact ⟨(h4.lo' i o).1,l4 i o,(h4.lo' i o).2⟩
theorem NewW.seg {w w':World} {lo hi:Nat} {x:Wo} {a b d e:Option Addr} {p q r s:Nat} (h:NewW w lo hi x a b d e p q r s):SegW w w.heap.size x a b d e:=⟨h.1.1.segS,h.1.2.1.segS,h.1.2.2.1.segS,h.1.2.2.2.segS⟩
/-- As the lists lie in a later world. -/
theorem NewW.segAt {w w':World} {lo hi:Nat} {x:Wo} {a b d e:Option Addr} {p q r s:Nat} (h:NewW w lo hi x a b d e p q r s) (hb:Below w.heap.size w w'):SegW w' w'.heap.size x a b d e:=NewW.seg (w':=w') (h.below hb)
theorem Row.newS {w:World} {g n k lo:Nat} {t:TypeId} {f:Nat→Nat→Value} (h:Row w g t n k f) (hl:lo≤g):New w lo (.slice (some ⟨g,0,none⟩) n n) n k f:=.inr ⟨g,_,rfl,hl,h.lie⟩
theorem MadeW.new {w:World} {lo:Nat} {x:Wo} {g1 g2 g3 g4:Nat} (h:MadeW w lo x g1 g2 g3 g4):NewW w lo w.heap.size x (some ⟨g1,0,none⟩) (some ⟨g2,0,none⟩) (some ⟨g3,0,none⟩) (some ⟨g4,0,none⟩) x.ch.cells.length x.ch.words.length x.hands.length x.deals.length∧Apart (some ⟨g1,0,none⟩) (some ⟨g2,0,none⟩) (some ⟨g3,0,none⟩) (some ⟨g4,0,none⟩):=by
  obtain ⟨⟨k1,k2,k3,k4⟩,r1,r2,r3,r4⟩:=h
  have c:∀ {g:Nat} i,(Value.slice (some ⟨g,0,none⟩) 0 0).ownBlock=some i→i=g:=fun i e=>by simp [Value.ownBlock] at e;exact e.symm
  have o:∀ g:Nat,(Value.slice (some ⟨g,0,none⟩) 0 0).ownBlock=some g:=fun g=>rfl
  have n12:=r1.ty r2 (by decide)
  have n13:=r1.ty r3 (by decide)
  have n14:=r1.ty r4 (by decide)
  have n23:=r2.ty r3 (by decide)
  have n24:=r2.ty r4 (by decide)
  have n34:=r3.ty r4 (by decide)
  refine ⟨⟨⟨r1.newS k1,r2.newS k2,r3.newS k3,r4.newS k4⟩,fun i e=>(c i e) ▸ r1.lt,fun i e=>(c i e) ▸ r2.lt,fun i e=>(c i e) ▸ r3.lt,fun i e=>(c i e) ▸ r4.lt⟩,⟨fun i e=>?_,fun i e=>?_,fun i e=>?_⟩⟩
  · obtain rfl:=c i e;exact ⟨fun e2=>n12 (c _ e2),fun e2=>n13 (c _ e2),fun e2=>n14 (c _ e2)⟩
  · obtain rfl:=c i e;exact ⟨fun e2=>n23 (c _ e2),fun e2=>n24 (c _ e2)⟩
  · obtain rfl:=c i e;exact fun e2=>n34 (c _ e2)
theorem own_new {w:World} {lo:Nat} {t:TypeId} {n k:Nat} {v:Value} {xs:List Value} {f:Nat→Nat→Value} (h:w.ownsRow lo t k v n xs) (hl:xs.length=n*k) (hf:∀ i j,i<n→j<k→xs[i*k+j]?=some (f i j)):∃ a p,v=.slice a n p∧New w lo (.slice a n p) n k f:=by
  rcases h.2 with ⟨h1,h0⟩|⟨g,cap,cur,rfl,hlo,hg,h4,h5,h6,h7⟩
  · subst h0;exact ⟨none,0,h1,.inl ⟨rfl,rfl⟩⟩
  · refine ⟨_,_,rfl,.inr ⟨g,cap,rfl,hlo,cur,_,hg,?_,fun i j hi hj=>?_⟩⟩
    · have e:=congrArg List.length h7
      rw [List.length_take,hl] at e
      simp at e;omega
    · have:=h.cells (g:=g) rfl (i*k+j) _ (hf i j hi hj)
      have e2:(⟨g,0,none⟩:Addr).add (i*k+j)=⟨g,i*k+j,none⟩:=by generalize i*k+j=m;by_cases e:m=0 <;> simp [Addr.add,e]
      rw [e2] at this
      simpa [World.cell?,hg] using this
theorem own_apart2 {w:World} {lo lo':Nat} {t t':TypeId} {k k' n n' p p':Nat} {a a':Option Addr} {xs xs':List Value} (h:w.ownsRow lo t k (.slice a n p) n xs) (h':w.ownsRow lo' t' k' (.slice a' n' p') n' xs') (hne:t≠t'):∀ i,(Value.slice a 0 0).ownBlock=some i→(Value.slice a' 0 0).ownBlock≠some i:=by
  intro i e e'
  rcases own_off_ty h h' hne with h0|h0
  · rw [ownBlock_len,e] at h0;cases h0
  · rw [ownBlock_len,ownBlock_len a',e,e'] at h0;exact h0 rfl
theorem WOwn.new {w:World} {lo:Nat} {v1 v2 v3 v4:Value} {x:Wo} (h:WOwn w lo v1 v2 v3 v4 x):∃ a b d e p q r s,v1=.slice a x.ch.cells.length p∧v2=.slice b x.ch.words.length q∧v3=.slice d x.hands.length r∧v4=.slice e x.deals.length s∧NewW w lo w.heap.size x a b d e p q r s∧Apart a b d e:=by
  obtain ⟨h1,h2,h3,h4⟩:=h
  obtain ⟨a,p,rfl,n1⟩:=own_new h1 (flatC_len _) (flatC_get _)
  obtain ⟨b,q,rfl,n2⟩:=own_new (f:=intF x.ch.words) h2 (by simp [ints_len]) (fun i j hi hj=>by (obtain rfl:j=0:=(by omega));simp [ints,intF,List.getD,hi])
  obtain ⟨d,r,rfl,n3⟩:=own_new h3 (flatH_len _) (flatH_get _)
  obtain ⟨e,s,rfl,n4⟩:=own_new h4 (flatD_len _) (flatD_get _)
  exact ⟨a,b,d,e,p,q,r,s,rfl,rfl,rfl,rfl,⟨⟨n1,n2,n3,n4⟩,fun i hi=>(n1.lo' i hi).2,fun i hi=>(n2.lo' i hi).2,fun i hi=>(n3.lo' i hi).2,fun i hi=>(n4.lo' i hi).2⟩,fun i hi=>⟨own_apart2 h1 h2 (by decide) i hi,own_apart2 h1 h3 (by decide) i hi,own_apart2 h1 h4 (by decide) i hi⟩,fun i hi=>⟨own_apart2 h2 h3 (by decide) i hi,own_apart2 h2 h4 (by decide) i hi⟩,fun i hi=>own_apart2 h3 h4 (by decide) i hi⟩
end Go.Proofs.Ytgpdocmclkpknaa
set_option linter.unusedSimpArgs false
set_option linter.unusedVariables false
namespace Go.Proofs.Ytgpdocmclkpknaa
open Go.RowKit
set_option linter.unusedSimpArgs false
theorem ap {a b:Option Addr} (h:∀ i,(Value.slice a 0 0).ownBlock=some i→(Value.slice b 0 0).ownBlock≠some i) (n p n' p':Nat):∀ i,(Value.slice a n p).ownBlock=some i→(Value.slice b n' p').ownBlock≠some i:=fun i e=>by rw [ownBlock_len b];exact h i (by rw [← ownBlock_len a n p];exact e)
theorem ap2 {a b:Option Addr} (h:∀ i,(Value.slice a 0 0).ownBlock=some i→(Value.slice b 0 0).ownBlock≠some i) (n p n' p':Nat):∀ i,(Value.slice b n p).ownBlock=some i→(Value.slice a n' p').ownBlock≠some i:=fun i e e2=>ap h n' p' n p i e2 e
theorem own_ap {v v':Value} (h:∀ i,v.ownBlock=some i→v'.ownBlock≠some i):v'.ownBlock=none∨v.ownBlock≠v'.ownBlock:=by
  cases e:v'.ownBlock with
  | none=>exact .inl rfl
  | some i=>exact .inr fun e2=>h i e2 e
set_option maxRecDepth 100000 in
set_option maxHeartbeats 4000000 in
theorem markWorld_any (x:Wo) (a b d e:Option Addr) (p q r s:Nat) (lo hi:Nat) (w:World) (h:NewW w lo hi x a b d e p q r s) (ha:Apart a b d e) (m:LenW x) :
    Calls Try.prog 13 #[.agg #[.int .i64 x.ch.cap,.int .i64 x.ch.sent,.int .i64 x.ch.got,.int .i64 x.ch.fin,.slice a x.ch.cells.length p,.slice b x.ch.words.length q,.slice d x.hands.length r,.slice e x.deals.length s,.int .i64 x.now],.int .i64 1] w fun r' w'=>r'=.returned (.int .i64 (wsum x))∧MkW w' lo hi x a b d e p q r s∧OnlP (OfW a b d e) w w':=by
  have hP0:¬ OfW a b d e w.heap.size:=fun o=>by have:=(NewW.ofW (w':=w) h _ o).2.2;omega
  unfold MkW wsum
  obtain ⟨⟨cap,sent,got,fin,cells,words⟩,hands,deals,now⟩:=x
  obtain ⟨m1,m2,m3,m4⟩:=m
  obtain ⟨⟨h1,h2,h3,h4⟩,l1,l2,l3,l4⟩:=h
  simp only at *
  obtain ⟨k1,e1⟩:∃ k:Int,k=1+3*(cells.length:Int):=⟨_,rfl⟩
  obtain ⟨k2,e2⟩:∃ k:Int,k=k1+words.length:=⟨_,rfl⟩
  obtain ⟨k3,e3⟩:∃ k:Int,k=k2+14*hands.length:=⟨_,rfl⟩
  rw [← e1,← e2,← e3]
  have b1:0≤k2∧k2≤1099511627776:=by omega
  have b2:0≤k3∧k3≤1099511627776:=by omega
  have H1:=Lib.hid h1
  have H2:=Lib.hid h2
  have H3:=Lib.hid h3
  have H4:=Lib.hid h4
  have L1:=Lib.hid l1
  have L2:=Lib.hid l2
  have L3:=Lib.hid l3
  have L4:=Lib.hid l4
  have HA:=Lib.hid ha
  have E1:=Lib.hid e1
  have E2:=Lib.hid e2
  have E3:=Lib.hid e3
  clear h1 h2 h3 h4 l1 l2 l3 l4 ha e1 e2 e3
  go_enter Try.func13,Try.ntmps13
  go_wp2_with fail
  refine (markChan_any cells.length words.length (cellF cells) (intF words) cap sent got fin lo lo _ _ 1 k1 _ (H1.out.below (by exact zB)) (H2.out.below (by exact zB)) (ap (fun i e=>(HA.out.1 i e).1) _ _ _ _) (by omega) (by omega) E1.out m1 m2).mono ?_
  rintro _ w1 ⟨rfl,N1,N2,hO⟩
  rw [← E2.out]
  have R1:OnlP (OfW a b d e) _ w1:=OnlP.of_onl hO (fun i e=>.inl (by rw [← ownBlock_len a cells.length p];exact e)) (fun i e=>.inr (.inl (by rw [← ownBlock_len b words.length q];exact e)))
  have hs1:=R1.2.2.2.1
  try simp at hs1
  have:=fun o=>R1.cell (i:=w.heap.size) (by simp) hP0 o
  have N3:=((H3.out).below (w1:=w.alloc (.cells #[.int .i64 cap,.int .i64 sent,.int .i64 got,.int .i64 fin,.slice a cells.length p,.slice b words.length q,.slice d hands.length r,.slice e deals.length s,.int .i64 now] 38)) (by exact zB)).keptO hO (ap2 (fun i e=>(HA.out.1 i e).2.1) _ _ _ _) (ap2 (fun i e=>(HA.out.2.1 i e).1) _ _ _ _)
  have N4:=((H4.out).below (w1:=w.alloc (.cells #[.int .i64 cap,.int .i64 sent,.int .i64 got,.int .i64 fin,.slice a cells.length p,.slice b words.length q,.slice d hands.length r,.slice e deals.length s,.int .i64 now] 38)) (by exact zB)).keptO hO (ap2 (fun i e=>(HA.out.1 i e).2.2) _ _ _ _) (ap2 (fun i e=>(HA.out.2.1 i e).2) _ _ _ _)
  have RW:=Lib.hid ((OnlP.of_below (P:=OfW a b d e) (by exact zB:Below w.heap.size w (w.alloc (.cells #[.int .i64 cap,.int .i64 sent,.int .i64 got,.int .i64 fin,.slice a cells.length p,.slice b words.length q,.slice d hands.length r,.slice e deals.length s,.int .i64 now] 38)))).trans R1)
  have M1:Hid (New w1 lo (.slice a cells.length p) cells.length 3 (cellF (marksC 1 cells.length))):=Lib.hid (by have z:=N1;unfold NewC at z;rw [marksC_len] at z;exact z)
  have M2:Hid (New w1 lo (.slice b words.length q) words.length 1 (intF (marksI k1 words.length))):=Lib.hid (by have z:=N2;unfold NewI at z;rw [marksI_len] at z;exact z)
  have M3:=Lib.hid N3
  have M4:=Lib.hid N4
  clear N1 N2 N3 N4 hO R1
  go_wp2_with fail
  refine (markHandS_any hands.length _ lo _ k2 _ M3.out b1.1 b1.2 m3).mono ?_
  rintro _ w2 ⟨rfl,N3,hg⟩
  rw [← E3.out]
  have R2:OnlP (OfW a b d e) _ w2:=OnlP.of_grown hg (fun i e=>.inr (.inr (.inl (by rw [← ownBlock_len d hands.length r];exact e))))
  have hs2:=R2.2.2.2.1
  try simp at hs2
  have:=fun o=>R2.cell (i:=w.heap.size) (by omega) hP0 o
  have P1:=Lib.hid (M1.out.kept hg (own_ap (ap (fun i e=>(HA.out.1 i e).2.1) _ _ _ _)))
  have P2:=Lib.hid (M2.out.kept hg (own_ap (ap (fun i e=>(HA.out.2.1 i e).1) _ _ _ _)))
  have P3:=Lib.hid N3
  have P4:=Lib.hid (M4.out.kept hg (own_ap (ap2 (HA.out.2.2) _ _ _ _)))
  have RV:=Lib.hid (RW.out.trans R2)
  clear N3 hg R2 M1 M2 M3 M4 RW
  go_wp2_with fail
  refine (markDealS_any deals.length _ lo _ k3 _ P4.out b2.1 b2.2 m4).mono ?_
  rintro _ w3 ⟨rfl,N4,hg⟩
  have R3:OnlP (OfW a b d e) _ w3:=OnlP.of_grown hg (fun i e'=>.inr (.inr (.inr (by rw [← ownBlock_len e deals.length s];exact e'))))
  have hs3:=R3.2.2.2.1
  have:=fun o=>R3.cell (i:=w.heap.size) (by omega) hP0 o
  have Q1:=Lib.hid (P1.out.kept hg (own_ap (ap (fun i e=>(HA.out.1 i e).2.2) _ _ _ _)))
  have Q2:=Lib.hid (P2.out.kept hg (own_ap (ap (fun i e=>(HA.out.2.1 i e).2) _ _ _ _)))
  have Q3:=Lib.hid (P3.out.kept hg (own_ap (ap (HA.out.2.2) _ _ _ _)))
  have Q4:=Lib.hid N4
  have RU:=Lib.hid (RV.out.trans R3)
  clear N4 hg R3 P1 P2 P3 P4 RV
  go_wp2
  go_ret
  exact ⟨rfl,⟨⟨Q1.out,Q2.out,Q3.out,Q4.out⟩,L1.out,L2.out,L3.out,L4.out⟩,RU.out⟩
set_option maxRecDepth 100000 in
set_option maxHeartbeats 4000000 in
theorem heldWorld_any (x:Wo) (a b d e:Option Addr) (p q r s:Nat) (lo hi:Nat) (w:World) (h:MkW w lo hi x a b d e p q r s) (m:LenW x) :
    Calls Try.prog 14 #[.agg #[.int .i64 x.ch.cap,.int .i64 x.ch.sent,.int .i64 x.ch.got,.int .i64 x.ch.fin,.slice a x.ch.cells.length p,.slice b x.ch.words.length q,.slice d x.hands.length r,.slice e x.deals.length s,.int .i64 x.now],.int .i64 1] w fun r' w'=>r'=.returned (.int .i64 (wsum x))∧Below w.heap.size w w':=by
  unfold MkW at h
  unfold wsum
  obtain ⟨⟨cap,sent,got,fin,cells,words⟩,hands,deals,now⟩:=x
  obtain ⟨m1,m2,m3,m4⟩:=m
  obtain ⟨⟨h1,h2,h3,h4⟩,l1,l2,l3,l4⟩:=h
  simp only at *
  obtain ⟨k1,e1⟩:∃ k:Int,k=1+3*(cells.length:Int):=⟨_,rfl⟩
  obtain ⟨k2,e2⟩:∃ k:Int,k=k1+words.length:=⟨_,rfl⟩
  obtain ⟨k3,e3⟩:∃ k:Int,k=k2+14*hands.length:=⟨_,rfl⟩
  obtain ⟨k4,e4⟩:∃ k:Int,k=k3+7*deals.length:=⟨_,rfl⟩
  rw [← e1] at h2
  rw [← e1,← e2] at h3
  rw [← e1,← e2,← e3] at h4
  rw [← e1,← e2,← e3,← e4]
  have b1:0≤k2∧k2≤1099511627776:=by omega
  have b2:0≤k3∧k3≤1099511627776:=by omega
  have c2:¬ k2<0:=by omega
  have c3:¬ k3<0:=by omega
  have c4:¬ k4<0:=by omega
  have H1:Hid (NewC w lo (.slice a cells.length p) (marksC 1 cells.length)):=Lib.hid (by unfold NewC;rw [marksC_len];exact h1)
  have H2:Hid (NewI w lo (.slice b words.length q) (marksI k1 words.length)):=Lib.hid (by unfold NewI;rw [marksI_len];exact h2)
  have H3:=Lib.hid h3
  have H4:=Lib.hid h4
  have E1:=Lib.hid e1
  have E2:=Lib.hid e2
  have E3:=Lib.hid e3
  have E4:=Lib.hid e4
  clear h1 h2 h3 h4 e1 e2 e3 e4 l1 l2 l3 l4
  go_enter Try.func14,Try.ntmps14
  go_wp2_with fail
  refine (heldChan_any cells.length words.length cap sent got fin lo lo _ _ 1 k1 _ (H1.out.below (by exact zB)) (H2.out.below (by exact zB)) (by omega) (by omega) E1.out m1 m2).mono ?_
  rintro _ w1 ⟨rfl,hb1⟩
  rw [← E2.out]
  have hB1:Below w.heap.size w w1:=bT (by exact zB) hb1
  have hs1:=hb1.size
  try simp at hs1
  have:=fun o=>hb1.cell (p:=⟨w.heap.size,o,none⟩) (by simp)
  clear hb1
  go_wp2_with fail
  refine (heldHandS_any hands.length lo _ k2 _ (H3.out.below (by exact zB)) b1.1 b1.2 m3).mono ?_
  rintro _ w2 ⟨rfl,hb2⟩
  rw [← E3.out]
  have hB2:Below w.heap.size w w2:=bT (by exact zB) hb2
  have hs2:=hb2.size
  try simp at hs2
  have:=fun o=>hb2.cell (p:=⟨w.heap.size,o,none⟩) (by (try simp);(try omega))
  clear hb2
  go_wp2_with fail
  refine (heldDealS_any deals.length lo _ k3 _ (H4.out.below (by exact zB)) b2.1 b2.2 m4).mono ?_
  rintro _ w3 ⟨rfl,hb3⟩
  rw [← E4.out]
  have hB3:Below w.heap.size w w3:=bT (by exact zB) hb3
  clear hb3
  go_wp2
  go_ret
  exact ⟨rfl,hB3⟩
end Go.Proofs.Ytgpdocmclkpknaa
set_option linter.unusedSimpArgs false
set_option linter.unusedVariables false
namespace Go.Proofs.Ytgpdocmclkpknaa
open Go.RowKit
def upd {α:Type} (f:Nat→α) (k:Nat) (v:α):Nat→α:=fun j=>cond (Nat.beq j k) v (f j)
theorem upd_at {α:Type} (f:Nat→α) (k j:Nat) (v:α):upd f k v j=if j=k then v else f j:=by
  unfold upd
  by_cases h:j=k
  · subst h;simp
  · have:Nat.beq j k=false:=by cases hb:Nat.beq j k with
      | false=>rfl
      | true=>exact absurd (Nat.eq_of_beq_eq_true hb) h
    simp [this,h]
theorem nU {b:Bool} {P:Prop} (e:b=false) (h:b=true):P:=by rw [e] at h;cases h
def fillA (t:Array Value):List Nat→(Nat→Value)→Array Value
  | [],_=>t
  | d :: ds,s=>(fillA t ds s).setIfInBounds d (s d)
def fill (a:Act) (ds:List Nat) (s:Nat→Value):Act:=⟨fillA a.tmps ds s,a.defers⟩
theorem fillA_size (t:Array Value) (ds:List Nat) (s:Nat→Value):(fillA t ds s).size=t.size:=by
  induction ds with
  | nil=>rfl
  | cons d ds ih=>simp [fillA,ih]
theorem fillA_get (t:Array Value) (ds:List Nat) (s:Nat→Value) (k:Nat):(fillA t ds s)[k]?=if k ∈ ds then (t[k]?).map (fun _=>s k) else t[k]?:=by
  induction ds with
  | nil=>simp [fillA]
  | cons d ds ih =>
    simp only [fillA,Array.getElem?_setIfInBounds,fillA_size]
    by_cases h:d=k
    · subst h
      by_cases hl:d<t.size
      · simp [hl]
      · simp [hl]
    · have h2:¬ k=d:=fun e=>h e.symm
      simp only [h,if_false,List.mem_cons,h2,false_or]
      exact ih
theorem fill_self (a:Act) (ds:List Nat):fill a ds (fun k=>a.tmps.getD k undef)=a:=by
  unfold fill
  have:fillA a.tmps ds (fun k=>a.tmps.getD k undef)=a.tmps:=by
    apply Array.ext_getElem?
    intro k
    rw [fillA_get]
    by_cases hl:k<a.tmps.size
    · simp [hl]
    · simp [hl]
  rw [this]
/-- How many have not come up yet. -/
def left (l:Nat→Bool):Nat→Nat
  | 0=>0
  | n+1=>left l n+cond (l n) 0 1
theorem left_far (l:Nat→Bool) (i n:Nat) (h:n≤i):left (upd l i true) n=left l n:=by
  induction n with
  | zero=>rfl
  | succ n ih =>
    have:upd l i true n=l n:=by rw [upd_at,if_neg (by omega)]
    simp [left,ih (by omega),this]
theorem left_upd (l:Nat→Bool) (i n:Nat) (h:i<n) (hi:l i=false):left (upd l i true) n+1=left l n:=by
  induction n with
  | zero=>omega
  | succ n ih =>
    by_cases e:i=n
    · subst e
      have:upd l i true i=true:=by rw [upd_at,if_pos rfl]
      simp [left,left_far l i i (Nat.le_refl _),this,hi]
    · have:upd l i true n=l n:=by rw [upd_at,if_neg (by omega)]
      have:=ih (by omega)
      simp only [left, *]
      omega
theorem left_zero (l:Nat→Bool) (n:Nat) (h:left l n=0):∀ i,i<n→l i=true:=by
  induction n with
  | zero=>intro i hi;omega
  | succ n ih =>
    intro i hi
    simp only [left] at h
    by_cases e:i=n
    · subst e
      cases hl:l i with
      | true=>rfl
      | false=>simp [hl] at h
    · exact ih (by omega) i (by omega)
/-- The lists of what must have come up before each, held against the region: each waits for earlier ones alone, and each that is listed is waited for, or one that is waited for waits for it. -/
def waitsOk (T:List (List Nat)):Nat→List Oper→Bool
  | _,[]=>true
  | i,o :: os=>(o.after.toList.all fun e=>!Region.binds .any e || Nat.blt e.on i) && ((T.getD i []).all fun t=>o.after.toList.any fun e=>Region.binds .any e && (Nat.beq e.on t || (T.getD e.on []).any fun u=>Nat.beq u t)) && waitsOk T (i+1) os
theorem waitsOk_at {T:List (List Nat)} {j:Nat} {o:Oper}:∀ (os:List Oper) (i:Nat),waitsOk T i os=true→os[j]?=some o →
    (∀ e ∈ o.after,Region.binds .any e=true→e.on<i+j)∧∀ t ∈ T.getD (i+j) [],∃ e ∈ o.after,Region.binds .any e=true∧(e.on=t∨t ∈ T.getD e.on []):=by
  induction j with
  | zero =>
    intro os i h ho
    cases os with
    | nil=>simp at ho
    | cons p os =>
      simp at ho
      subst ho
      simp only [waitsOk,Bool.and_eq_true] at h
      obtain ⟨⟨h1,h2⟩,_⟩:=h
      refine ⟨fun e he hb=>?_,fun t ht=>?_⟩
      · have:=List.all_eq_true.1 h1 e (by simpa using he)
        simp [hb] at this
        simpa [Nat.blt_eq] using this
      · have:=List.all_eq_true.1 h2 t (by simpa using ht)
        obtain ⟨e,he,h3⟩:=List.any_eq_true.1 this
        simp only [Bool.and_eq_true,Bool.or_eq_true] at h3
        refine ⟨e,by simpa using he,h3.1,?_⟩
        rcases h3.2 with h4|h4
        · exact .inl (Nat.eq_of_beq_eq_true h4)
        · obtain ⟨u,hu,h5⟩:=List.any_eq_true.1 h4
          exact .inr ((Nat.eq_of_beq_eq_true h5) ▸ hu)
  | succ j ih =>
    intro os i h ho
    cases os with
    | nil=>simp at ho
    | cons p os =>
      simp at ho
      simp only [waitsOk,Bool.and_eq_true] at h
      have:=ih os (i+1) h.2 ho
      rw [show i+(j+1)=i+1+j by omega]
      exact this
section
variable {P:Program} {ops:Array Oper} {Q:Exit→Act→World→Prop}
/-- One operation, whatever came up before it. -/
def StepAt (P:Program) (ops:Array Oper) (Q:Exit→Act→World→Prop) (T:List (List Nat)) (F:(Nat→Value)→Act) (Φ:(Nat→Bool)→(Nat→Value)→World→Prop) (i:Nat) (o:Oper):Prop :=
  ∀ (l:Nat→Bool) (s:Nat→Value) (w:World),l i=false→(∀ t,(T.getD i []).any (Nat.beq t)=true→l t=true)→(∀ j,(T.getD j []).any (Nat.beq i)=true→l j=false)→Φ l s w →
    ∀ K':Act→World→Prop,Shut (∀ s' a' w',a'=F s'→Φ (upd l i true) s' w'→K' a' w')→if Region.wanted o (yielded ops (F s).tmps)=true then Oper.wp P o (F s) w K' Q else K' ((F s).put o.dst undef) w
def Steps (P:Program) (ops:Array Oper) (Q:Exit→Act→World→Prop) (T:List (List Nat)) (F:(Nat→Value)→Act) (Φ:(Nat→Bool)→(Nat→Value)→World→Prop):Nat→List Oper→Prop
  | _,[]=>True
  | i,o :: os=>StepAt P ops Q T F Φ i o∧Steps P ops Q T F Φ (i+1) os
theorem Steps.at {T:List (List Nat)} {F:(Nat→Value)→Act} {Φ:(Nat→Bool)→(Nat→Value)→World→Prop} {j:Nat} {o:Oper}:∀ (os:List Oper) (i:Nat),Steps P ops Q T F Φ i os→os[j]?=some o→StepAt P ops Q T F Φ (i+j) o:=by
  induction j with
  | zero =>
    intro os i h ho
    cases os with
    | nil=>simp at ho
    | cons p os=>simp at ho;subst ho;exact h.1
  | succ j ih =>
    intro os i h ho
    cases os with
    | nil=>simp at ho
    | cons p os =>
      simp at ho
      have:=ih os (i+1) h.2 ho
      rw [show i+(j+1)=i+1+j by omega]
      exact this
theorem any_beq {L:List Nat} {t:Nat}:L.any (Nat.beq t)=true↔t ∈ L:=by
  rw [List.any_eq_true]
  constructor
  · rintro ⟨x,hx,he⟩
    exact (Nat.eq_of_beq_eq_true he) ▸ hx
  · intro h
    exact ⟨t,h,by simp⟩
theorem wpAny_inv {T:List (List Nat)} {F:(Nat→Value)→Act} {Φ:(Nat→Bool)→(Nat→Value)→World→Prop} (hT:waitsOk T 0 ops.toList=true) (hTl:Nat.ble T.length ops.size=true) (steps:Steps P ops Q T F Φ 0 ops.toList)
    (fin:∀ (l:Nat→Bool) (s:Nat→Value) (w:World),(∀ i,Nat.blt i ops.size=true→l i=true)→Φ l s w→Q .normal (F s) w) :
    ∀ (fuel:Nat) (listed:Array Bool) (l:Nat→Bool) (s:Nat→Value) (w:World),listed.size=ops.size→(∀ i,i<ops.size→listed[i]?=some (l i))→left l ops.size≤fuel →
      (∀ i e o,ops[i]?=some o→e ∈ o.after→Region.binds .any e=true→l i=true→l e.on=true)→Φ l s w→wpAny P .any ops Q fuel listed (F s) w:=by
  have W:∀ i o,ops[i]?=some o→(∀ e ∈ o.after,Region.binds .any e=true→e.on<i)∧∀ t ∈ T.getD i [],∃ e ∈ o.after,Region.binds .any e=true∧(e.on=t∨t ∈ T.getD e.on []):=by
    intro i o ho
    have:=waitsOk_at (j:=i) ops.toList 0 hT (by simpa using ho)
    simpa using this
  have up:∀ (l:Nat→Bool),(∀ i e o,ops[i]?=some o→e ∈ o.after→Region.binds .any e=true→l i=true→l e.on=true)→∀ n i,i<n→i<ops.size→l i=true→∀ t ∈ T.getD i [],l t=true:=by
    intro l hc n
    induction n with
    | zero=>intro i hi;omega
    | succ n ih =>
      intro i hi hs hl t ht
      have ho:ops[i]?=some ops[i]:=by simp [hs]
      obtain ⟨e,he,hb,h3⟩:=(W i _ ho).2 t ht
      have h1:=hc i e _ ho he hb hl
      have h2:=(W i _ ho).1 e he hb
      rcases h3 with h3|h3
      · exact h3 ▸ h1
      · exact ih e.on (by omega) (by omega) h1 t h3
  have all:∀ (listed:Array Bool) (l:Nat→Bool),listed.size=ops.size→(∀ i,i<ops.size→listed[i]?=some (l i))→Region.ready .any ops listed=[]→∀ n i,i<n→i<ops.size→l i=true:=by
    intro listed l hsz hl hr n
    induction n with
    | zero=>intro i hi;omega
    | succ n ih =>
      intro i hi hs
      cases hli:l i with
      | true=>rfl
      | false =>
        have ho:ops[i]?=some ops[i]:=by simp [hs]
        have hm:i ∈ Region.ready .any ops listed:=mem_ready.2 ⟨by simp [Array.getD_eq_getD_getElem?,hl i hs,hli],_,ho,fun e he hb=>by
          have h2:=(W i _ ho).1 e he hb
          have h3:=ih e.on (by omega) (by omega)
          simp [Array.getD_eq_getD_getElem?,hl e.on (by omega),h3]⟩
        rw [hr] at hm
        cases hm
  intro fuel
  induction fuel with
  | zero =>
    intro listed l s w hsz hl hf hc hΦ
    have h0:=left_zero l ops.size (by omega)
    refine ⟨?_,fin l s w (fun i hi=>h0 i (by simpa [Nat.blt_eq] using hi)) hΦ⟩
    apply List.eq_nil_iff_forall_not_mem.2
    intro i hi
    obtain ⟨h1,o,ho,_⟩:=mem_ready.1 hi
    have hs:i<ops.size:=(Array.getElem?_eq_some_iff.1 ho).1
    rw [Array.getD_eq_getD_getElem?,hl i hs,h0 i hs] at h1
    cases h1
  | succ fuel ih =>
    intro listed l s w hsz hl hf hc hΦ
    refine ⟨fun hr=>fin l s w (fun i hi=>all listed l hsz hl hr (i+1) i (by omega) (by simpa [Nat.blt_eq] using hi)) hΦ,fun i hi=>?_⟩
    obtain ⟨h1,o,ho,hall⟩:=mem_ready.1 hi
    have hs:i<ops.size:=(Array.getElem?_eq_some_iff.1 ho).1
    have hli:l i=false:=by
      rw [Array.getD_eq_getD_getElem?,hl i hs] at h1
      simpa using h1
    have hd:∀ e ∈ o.after,Region.binds .any e=true→l e.on=true:=fun e he hb=>by
      have h2:=hall e he hb
      have h3:=(W i o ho).1 e he hb
      rw [Array.getD_eq_getD_getElem?,hl e.on (by omega)] at h2
      simpa using h2
    have hst:=Steps.at (j:=i) ops.toList 0 steps (by simpa using ho)
    rw [Nat.zero_add] at hst
    refine wpOp_step ho fun K' hK=>hst l s w hli (fun t ht=>?_) (fun j hj=>?_) hΦ K' (fun s' a' w' ea hΦ'=>hK _ _ ?_)
    · obtain ⟨e,he,hb,h3⟩:=(W i o ho).2 t (any_beq.1 ht)
      rcases h3 with h3|h3
      · exact h3 ▸ hd e he hb
      · exact up l hc (e.on+1) e.on (by omega) (by have:=(W i o ho).1 e he hb;omega) (hd e he hb) t h3
    · have hj2:=any_beq.1 hj
      cases hlj:l j with
      | false=>rfl
      | true =>
        by_cases hjs:j<ops.size
        · have:=up l hc (j+1) j (by omega) hjs hlj i hj2
          rw [hli] at this
          cases this
        · have h5:=Nat.le_of_ble_eq_true hTl
          simp [List.getD_eq_getElem?_getD,List.getElem?_eq_none (show T.length≤j by omega)] at hj2
    · subst ea
      refine ih _ (upd l i true) s' w' (by simpa using hsz) (fun k hk=>?_) (by have:=left_upd l i ops.size hs hli;omega) (fun k e o2 ho2 he hb hk=>?_) hΦ'
      · rw [Array.getElem?_setIfInBounds,upd_at,hl k hk]
        by_cases e:i=k
        · subst e;simp [hsz,hs]
        · have e2:¬ k=i:=fun x=>e x.symm
          simp [e,e2]
      · rw [upd_at] at hk ⊢
        by_cases e1:e.on=i
        · simp [e1]
        · rw [if_neg e1]
          by_cases e2:k=i
          · subst e2
            rw [ho] at ho2
            obtain rfl:=Option.some.inj ho2
            exact hd e he hb
          · rw [if_neg e2] at hk
            exact hc k e o2 ho2 he hb hk
/-- A drawn region: the frame F by what lies in the slots, the invariant Φ by what has come up. -/
theorem wp_region_inv {id:Nat} {a:Act} {w:World} (T:List (List Nat)) (ds:List Nat) (Φ:(Nat→Bool)→(Nat→Value)→World→Prop) {F:(Nat→Value)→Act} (hm:P.follows .mixedOrders=true) (hT:waitsOk T 0 ops.toList=true) (hTl:Nat.ble T.length ops.size=true)
    (hF:∀ s,fill a ds s=F s) (h0:∀ s,Φ (fun _=>false) s w.drew) (steps:Steps P ops Q T F Φ 0 ops.toList)
    (fin:∀ (l:Nat→Bool) (s:Nat→Value) (w:World),(∀ i,Nat.blt i ops.size=true→l i=true)→Φ l s w→Q .normal (F s) w):(Code.region id ops true).wp P Q a w:=by
  refine wp_region_any hm ?_
  have:=wpAny_inv hT hTl steps fin ops.size (Array.replicate ops.size false) (fun _=>false) (fun k=>a.tmps.getD k undef) w.drew (by simp) (fun i hi=>by simp [hi]) (by
    generalize ops.size=n
    induction n with
    | zero=>simp [left]
    | succ n ih=>simp [left];exact ih) (fun i e o _ _ _ h=>by cases h) (h0 _)
  rw [← hF,fill_self] at this
  exact this
end
end Go.Proofs.Ytgpdocmclkpknaa
set_option linter.unusedSimpArgs false
set_option linter.unusedVariables false
namespace Go.Proofs.Ytgpdocmclkpknaa
open Go.RowKit
variable {w w':World} {v:Value} {lo b:Nat} {x y ys:Array Value} {T T':TypeId}
theorem belowAlloc (w:World) (o:Obj):Below w.heap.size w (w.alloc o):=(Below.refl _ _).alloc (Nat.le_refl _) o
theorem hpS (h:hp w b=some (.cells x T)) (hb:Below w.heap.size w w'):hp w' b=some (.cells x T):=(hpB hb (bO h).2.2).trans h
def IsBox (w:World) (v:Value) (lo:Nat) (x:Array Value) (T:TypeId):Prop:=∃ b,v=.pointer (some ⟨b,0,none⟩)∧lo≤b∧hp w b=some (.cells x T)
theorem IsBox.below (h:IsBox w v lo x T) (hb:Below w.heap.size w w'):IsBox w' v lo x T:=by
  obtain ⟨b,e,hl,hz⟩:=h
  exact ⟨b,e,hl,hpS hz hb⟩
theorem IsBox.new (h:lo≤w.heap.size):IsBox (w.alloc (.cells x T)) (.pointer (some ⟨w.heap.size,0,none⟩)) lo x T :=
  ⟨_,rfl,h,heap_alloc_new w _⟩
theorem hp_far (hz:hp w b=some (.cells y T')) {b':Nat} (h:hp w b'=some (.cells x T)) (hne:T≠T'):hp (setBox w b ys) b'=some (.cells x T):=by
  have:b'≠b:=by
    rintro rfl
    rw [hz] at h
    simp at h
    exact hne h.2.symm
  exact (bx_heap_ne this).trans h
theorem hp_set (hz:hp w b=some (.cells y T)):hp (setBox w b ys) b=some (.cells ys T):=by rw [bx_heap_at,hz];rfl
theorem IsBox.far (h:IsBox w v lo x T) (hz:hp w b=some (.cells y T')) (hne:T≠T'):IsBox (setBox w b ys) v lo x T:=by
  obtain ⟨b',e,hl,h⟩:=h
  exact ⟨b',e,hl,hp_far hz h hne⟩
theorem own_far {e:TypeId} {k m:Nat} {u:Value} {xs:List Value} (h:w.ownsRow lo e k u m xs) (hz:hp w b=some (.cells y T')) (hne:e≠T'):(setBox w b ys).ownsRow lo e k u m xs:=by
  refine own_box h fun e2=>?_
  rcases h.2 with ⟨rfl,_⟩|⟨g,cap,cur,rfl,_,hg,_⟩
  · cases e2
  · simp [Value.ownBlock] at e2
    subst e2
    unfold hp at hz
    rw [hz] at hg
    simp at hg
    exact hne hg.2.symm
theorem own_offs {e:TypeId} {k m:Nat} {u:Value} {xs:List Value} (h:w.ownsRow lo e k u m xs) (hz:hp w b=some (.cells y T')) (hne:e≠T'):∀ i,u.ownBlock=some i→i≠b:=by
  rintro i e2 rfl
  rcases h.2 with ⟨rfl,_⟩|⟨g,cap,cur,rfl,_,hg,_⟩
  · cases e2
  · simp [Value.ownBlock] at e2
    subst e2
    unfold hp at hz
    rw [hz] at hg
    simp at hg
    exact hne hg.2.symm
theorem Row.belowS {n k:Nat} {f:Nat→Nat→Value} (h:Row w b T n k f) (hb:Below w.heap.size w w'):Row w' b T n k f:=by
  obtain ⟨c,h1,h2⟩:=h
  exact ⟨c,(hb.block b (Array.getElem?_eq_some_iff.1 h1).1).trans h1,h2⟩
end Go.Proofs.Ytgpdocmclkpknaa
set_option linter.unusedSimpArgs false
set_option linter.unusedVariables false
namespace Go.Proofs.Ytgpdocmclkpknaa
open Go.RowKit
def wvals (x:Wo) (v1 v2 v3 v4:Value):Array Value:=#[.int .i64 x.ch.cap,.int .i64 x.ch.sent,.int .i64 x.ch.got,.int .i64 x.ch.fin,v1,v2,v3,v4,.int .i64 x.now]
theorem wv_ne (x:Wo) (v1 v2 v3 v4:Value):(wvals x v1 v2 v3 v4=#[])=False:=by simp [wvals]
theorem wv_size (x:Wo) (v1 v2 v3 v4:Value):(wvals x v1 v2 v3 v4).size=9:=rfl
theorem infoWo:(Try.prog.info? 38).map (fun i=>(i.zero,i.size,i.bytes))=some (some (.agg (wvals Wo.zero (.slice none 0 0) (.slice none 0 0) (.slice none 0 0) (.slice none 0 0))),9,136):=by kernel_rfl
theorem zeroWo (w:World):(zeroValue 38).run Try.prog w=.ok (.agg (wvals Wo.zero (.slice none 0 0) (.slice none 0 0) (.slice none 0 0) (.slice none 0 0))) w:=by
  obtain ⟨i,hi,hz,_⟩:=info_parts infoWo
  have e:Try.prog.info? 38=some Try.t38:=by kernel_rfl
  obtain rfl:Try.t38=i:=by rw [e] at hi;exact Option.some.inj hi
  simp [zeroValue,go_sem,hz]
theorem aggWo (w:World):(isAgg 38).run Try.prog w=.ok true w:=by simp [isAgg,go_sem]
theorem aggWoL (w:World):(isAgg 29).run Try.prog w=.ok true w:=by simp [isAgg,go_sem]
theorem szWo (w:World):(sizeOf 38).run Try.prog w=.ok 9 w:=by simp [go_sem]
theorem szWoL (w:World):(sizeOf 29).run Try.prog w=.ok 9 w:=by simp [go_sem]
variable {w:World} {b:Nat}
/-- Loading whole, as one word. -/
def LWo (x:Value):Sem Value:=Instr.loadAt 38 x
def LWoL (x:Value):Sem Value:=Instr.loadAt 29 x
theorem toLWo (x:Value):Instr.loadAt 38 x=LWo x:=by unfold LWo;simp
theorem toLWoL (x:Value):Instr.loadAt 29 x=LWoL x:=by unfold LWoL;simp
theorem runLWo (h:okO 9 (hp w b)=true):(LWo (.pointer (some ⟨b,0,none⟩))).run Try.prog w=.ok (.agg (cellsO (hp w b))) w:=by
  simp only [LWo,Instr.loadAt,Instr.sureAddr,Sem.run_bind,Sem.run_pure,Result.andThen_ok,load_box aggWo szWo h]
theorem runLWoL (h:okO 9 (hp w b)=true):(LWoL (.pointer (some ⟨b,0,none⟩))).run Try.prog w=.ok (.agg (cellsO (hp w b))) w:=by
  simp only [LWoL,Instr.loadAt,Instr.sureAddr,Sem.run_bind,Sem.run_pure,Result.andThen_ok,load_box aggWoL szWoL h]
theorem storeWo (x:Wo) (a b' d e:Option Addr) (n1 p n2 q n3 r n4 s:Nat) (h:okO 9 (hp w b)=true):(Instr.storeAt 38 (.pointer (some ⟨b,0,none⟩)) (.agg (wvals x (.slice a n1 p) (.slice b' n2 q) (.slice d n3 r) (.slice e n4 s)))).run Try.prog w=.ok () (setBox w b (wvals x (.slice a n1 p) (.slice b' n2 q) (.slice d n3 r) (.slice e n4 s))):=by
  simp only [Instr.storeAt,Instr.sureAddr,Sem.run_bind,Sem.run_pure,Result.andThen_ok]
  exact store_box szWo h rfl (by simp [wvals,Value.oneCell'])
theorem storeWoC (x:Wo) (a b' d e:Option Addr) (n1 p n2 q n3 r n4 s:Nat) (h:okO 9 (hp w b)=true):(storeCells ⟨b,0,none⟩ (wvals x (.slice a n1 p) (.slice b' n2 q) (.slice d n3 r) (.slice e n4 s)).toList).run Try.prog w=.ok () (setBox w b (wvals x (.slice a n1 p) (.slice b' n2 q) (.slice d n3 r) (.slice e n4 s))):=store_cells h rfl (by simp [wvals,Value.oneCell'])
theorem OnlR.hpk {lo hi:Nat} {w w':World} {x:Array Value} {t:TypeId} (k:OnlR lo hi w w') {i:Nat} (z:hp w i=some (.cells x t)) (hr:i<lo∨hi≤i):hp w' i=some (.cells x t):=(k.2.2.2.2 i (bO z).2.2 hr).trans z
/-- Where there is no list it holds nothing. -/
def NoneW (x:Wo) (a b d e:Option Addr) (p1 p2 p3 p4:Nat):Prop:=(a=none→p1=0)∧(b=none→p2=0)∧(d=none→x.hands.length=0∧p3=0)∧(e=none→x.deals.length=0∧p4=0)
theorem OnlP.hpk {P:Nat→Prop} {w w':World} {x:Array Value} {t:TypeId} (k:OnlP P w w') {i:Nat} (z:hp w i=some (.cells x t)) (hr:¬ P i):hp w' i=some (.cells x t):=(k.2.2.2.2 i (bO z).2.2 hr).trans z
theorem noneS (x:Wo) (a b d e:Addr) (p q r s:Nat):NoneW x (some a) (some b) (some d) (some e) p q r s:=⟨nofun,nofun,nofun,nofun⟩
theorem toWorldB (x:Wo) (a b d e:Option Addr) (p1 p2 p3 p4:Nat) (w:World) (h:SegW w w.heap.size x a b d e) (m:LenW x) :
    Calls Try.prog 8 #[.agg (wvals x (.slice a x.ch.cells.length p1) (.slice b x.ch.words.length p2) (.slice d x.hands.length p3) (.slice e x.deals.length p4))] w fun r' w'=>(∃ g1 g2 g3 g4,r'=.returned (.agg (wvals x (.slice (some ⟨g1,0,none⟩) x.ch.cells.length x.ch.cells.length) (.slice (some ⟨g2,0,none⟩) x.ch.words.length x.ch.words.length) (.slice (some ⟨g3,0,none⟩) x.hands.length x.hands.length) (.slice (some ⟨g4,0,none⟩) x.deals.length x.deals.length)))∧MadeW w' w.heap.size x g1 g2 g3 g4)∧Below w.heap.size w w':=toWorld_any x a b d e p1 p2 p3 p4 w h m
theorem MadeW.belowS {w w':World} {lo:Nat} {x:Wo} {g1 g2 g3 g4:Nat} (h:MadeW w lo x g1 g2 g3 g4) (hb:Below w.heap.size w w'):MadeW w' lo x g1 g2 g3 g4:=h.below hb (Nat.le_refl _)
theorem MadeW.lo' {w:World} {lo l:Nat} {x:Wo} {g1 g2 g3 g4:Nat} (h:MadeW w lo x g1 g2 g3 g4) (hl:l≤lo):MadeW w l x g1 g2 g3 g4:=⟨⟨Nat.le_trans hl h.1.1,Nat.le_trans hl h.1.2.1,Nat.le_trans hl h.1.2.2.1,Nat.le_trans hl h.1.2.2.2⟩,h.2⟩
/-- A world and one word more are answered; the lists are new. -/
def WordW (w w':World) (y:Wo) (t:Value) (r:Ending):Prop:=(∃ a b d e p1 p2 p3 p4,r=.returned (.tuple #[.agg (wvals y (.slice a y.ch.cells.length p1) (.slice b y.ch.words.length p2) (.slice d y.hands.length p3) (.slice e y.deals.length p4)),t])∧NewW w' w.heap.size w'.heap.size y a b d e p1 p2 p3 p4∧Apart a b d e)∧Below w.heap.size w w'
theorem WordR.toW {w w':World} {y:Wo} {t:Value} {r:Ending} (h:WordR w w' y t r):WordW w w' y t r:=by
  obtain ⟨⟨v1,v2,v3,v4,rfl,ho⟩,hb⟩:=h
  obtain ⟨a,b,d,e,p1,p2,p3,p4,rfl,rfl,rfl,rfl,hn,ha⟩:=ho.new
  exact ⟨⟨a,b,d,e,p1,p2,p3,p4,rfl,hn,ha⟩,hb⟩
theorem alloc_sz (W:World) (o:Obj):(W.alloc o).heap.size=W.heap.size+1:=Array.size_push _
theorem WOwn.belowS {w w':World} {lo:Nat} {v1 v2 v3 v4:Value} {y:Wo} (h:WOwn w lo v1 v2 v3 v4 y) (hb:Below w.heap.size w w'):WOwn w' lo v1 v2 v3 v4 y:=⟨own_below h.1 hb,own_below h.2.1 hb,own_below h.2.2.1 hb,own_below h.2.2.2 hb⟩
theorem WOwn.lo' {w:World} {lo l:Nat} {v1 v2 v3 v4:Value} {y:Wo} (h:WOwn w lo v1 v2 v3 v4 y) (hl:l≤lo):WOwn w l v1 v2 v3 v4 y:=⟨own_lo h.1 hl,own_lo h.2.1 hl,own_lo h.2.2.1 hl,own_lo h.2.2.2 hl⟩
theorem WOwn.far {w:World} {lo b:Nat} {v1 v2 v3 v4:Value} {y:Wo} {xs ys:Array Value} (h:WOwn w lo v1 v2 v3 v4 y) (hz:hp w b=some (.cells xs 38)):WOwn (setBox w b ys) lo v1 v2 v3 v4 y:=⟨own_far h.1 hz (by decide),own_far h.2.1 hz (by decide),own_far h.2.2.1 hz (by decide),own_far h.2.2.2 hz (by decide)⟩
theorem WOwn.offs {w:World} {lo b:Nat} {v1 v2 v3 v4:Value} {y:Wo} {xs:Array Value} (h:WOwn w lo v1 v2 v3 v4 y) (hz:hp w b=some (.cells xs 38)):¬ (v1.ownBlock=some b∨v2.ownBlock=some b∨v3.ownBlock=some b∨v4.ownBlock=some b):=by
  rintro (e|e|e|e)
  · exact own_offs h.1 hz (by decide) b e rfl
  · exact own_offs h.2.1 hz (by decide) b e rfl
  · exact own_offs h.2.2.1 hz (by decide) b e rfl
  · exact own_offs h.2.2.2 hz (by decide) b e rfl
theorem wsum_pos (x:Wo):¬ wsum x<0:=by unfold wsum;omega
attribute [go_sem] runLWo runLWoL wv_ne wv_size
end Go.Proofs.Ytgpdocmclkpknaa
set_option linter.unusedSimpArgs false
set_option linter.unusedVariables false
namespace Go.Proofs.Ytgpdocmclkpknaa
open Go.RowKit
set_option linter.unusedSimpArgs false
attribute [local simp] bx_size
attribute [local go_sem ↓] zeroWo toLWo toLWoL storeWo storeWoC
set_option maxRecDepth 100000 in
set_option maxHeartbeats 8000000 in
theorem exactWorldOk_any (x:Wo) (t:Bool) (a b d e:Option Addr) (p1 p2 p3 p4:Nat) (w:World) (h:SegW w w.heap.size x a b d e) (m:x.ch.cells.length≤maxLen∧x.ch.words.length≤maxLen∧x.hands.length≤maxLen∧x.deals.length≤maxLen)
    (hs:LenW x→∀ (a b d e:Option Addr) (p1 p2 p3 p4:Nat) (w:World),SegW w w.heap.size x a b d e→NoneW x a b d e p1 p2 p3 p4→Calls Try.prog 7 #[.agg (wvals x (.slice a x.ch.cells.length p1) (.slice b x.ch.words.length p2) (.slice d x.hands.length p3) (.slice e x.deals.length p4))] w fun r' w'=>r'=.returned (.bool t)∧Below w.heap.size w w')
    (hi:LenW x→∀ (a b d e:Option Addr) (p1 p2 p3 p4:Nat) (w:World),SegW w w.heap.size x a b d e→NoneW x a b d e p1 p2 p3 p4→Calls Try.prog 9 #[.agg (wvals x (.slice a x.ch.cells.length p1) (.slice b x.ch.words.length p2) (.slice d x.hands.length p3) (.slice e x.deals.length p4))] w fun r' w'=>r'=.returned (.bool t)∧Below w.heap.size w w') :
    Calls Try.prog 3 #[.agg (wvals x (.slice a x.ch.cells.length p1) (.slice b x.ch.words.length p2) (.slice d x.hands.length p3) (.slice e x.deals.length p4))] w fun r w'=>r=.returned (.bool true)∧Below w.heap.size w w':=by
  have H:=Lib.hid h
  have M:=Lib.hid m
  have HS:=Lib.hid hs
  have HI:=Lib.hid hi
  clear h m hs hi
  go_enter Try.func3,Try.ntmps3
  go_wp2_with fail
  refine (szWorld_any x a b d e p1 p2 p3 p4 1048576 _ (by omega) (by omega) M.out.1 M.out.2.1 M.out.2.2.1 M.out.2.2.2).mono ?_
  rintro _ w1 ⟨⟨z,rfl,hz⟩,hbw1⟩
  have hB1:Below w.heap.size w w1:=bT (by exact zB) hbw1
  have hC1:Below w.heap.size w w1:=bT (by exact zB) hbw1
  have hsw1:=hbw1.size;(try (simp at hsw1));have zz:=hQ hbw1 (b:=w.heap.size);(first|(simp [go_sem,z_w,l_w] at zz)|(simp [go_sem] at zz));(try clear x_w f_w);(try clear z_w);have z_w:=zz;clear zz;(try clear l_w);obtain ⟨x_w,f_w,l_w⟩:=bO z_w
  clear hbw1
  by_cases hn:z<0
  · go_wp2
    go_ret
    exact ⟨rfl,hB1⟩
  have m:=hz (by omega)
  clear hz
  replace HS:=Lib.hid (HS.out m)
  replace HI:=Lib.hid (HI.out m)
  go_wp2_with fail
  refine (toWorldB x a b d e p1 p2 p3 p4 _ (((H.out.below (by exact zB)).more (by (try simp) <;> omega))) m).mono ?_
  rintro _ w2 ⟨⟨g1,g2,g3,g4,rfl,G⟩,hbw2⟩
  have hB2:Below w.heap.size w w2:=bT (by exact zB) hbw2
  have hC2:Below w1.heap.size w1 w2:=bT (by exact zB) hbw2
  have hsw2:=hbw2.size;(try (simp at hsw2));have zz:=hQ hbw2 (b:=w.heap.size);(first|(simp [go_sem,z_w,l_w] at zz)|(simp [go_sem] at zz));(try clear x_w f_w);(try clear z_w);have z_w:=zz;clear zz;(try clear l_w);obtain ⟨x_w,f_w,l_w⟩:=bO z_w
  clear hbw2
  go_wp2_with fail
  refine (HS.out _ _ _ _ _ _ _ _ _ ((G.below (Below.refl _ _) (Nat.le_refl _)).seg) (noneS _ _ _ _ _ _ _ _ _)).mono ?_
  rintro _ w3 ⟨rfl,hbw3⟩
  have hB3:Below w.heap.size w w3:=bT (by exact zB) hbw3
  have hC3:Below w2.heap.size w2 w3:=bT (by exact zB) hbw3
  have hsw3:=hbw3.size;(try (simp at hsw3));have zz:=hQ hbw3 (b:=w.heap.size);(first|(simp [go_sem,z_w,l_w] at zz)|(simp [go_sem] at zz));(try clear x_w f_w);(try clear z_w);have z_w:=zz;clear zz;(try clear l_w);obtain ⟨x_w,f_w,l_w⟩:=bO z_w
  clear hbw3
  go_wp2_with fail
  refine (toWorldB x a b d e p1 p2 p3 p4 _ (((H.out.below (by exact zB)).more (by (try simp) <;> omega))) m).mono ?_
  rintro _ w4 ⟨⟨y1,y2,y3,y4,rfl,Y⟩,hbw4⟩
  have hB4:Below w.heap.size w w4:=bT (by exact zB) hbw4
  have hC4:Below w3.heap.size w3 w4:=bT (by exact zB) hbw4
  have hsw4:=hbw4.size;(try (simp at hsw4));have zz:=hQ hbw4 (b:=w.heap.size);(first|(simp [go_sem,z_w,l_w] at zz)|(simp [go_sem] at zz));(try clear x_w f_w);(try clear z_w);have z_w:=zz;clear zz;(try clear l_w);obtain ⟨x_w,f_w,l_w⟩:=bO z_w
  clear hbw4
  obtain ⟨X0,A0⟩:=Y.new
  clear Y
  have hq4:=hsw4
  go_upto_region 7 with fail
  generalize hw5:World.alloc w4 _=w5
  have z_w4:hp w5 w4.heap.size=some (.cells (wvals x (.slice (some ⟨y1,0,none⟩) x.ch.cells.length x.ch.cells.length) (.slice (some ⟨y2,0,none⟩) x.ch.words.length x.ch.words.length) (.slice (some ⟨y3,0,none⟩) x.hands.length x.hands.length) (.slice (some ⟨y4,0,none⟩) x.deals.length x.deals.length)) 38):=by rw [← hw5];exact heap_alloc_new _ _
  have hC5:Below w4.heap.size w4 w5:=by rw [← hw5];exact belowAlloc _ _
  clear hw5
  have hB5:Below w.heap.size w w5:=bT hB4 hC5
  have hsw5:=hC5.size
  obtain ⟨x_w4,f_w4,l_w4⟩:=bO z_w4
  replace X0:=X0.below hC5
  replace z_w:=hpS z_w hC5
  clear x_w f_w l_w
  obtain ⟨x_w,f_w,l_w⟩:=bO z_w
  go_wp2_with fail
  refine (HI.out _ _ _ _ _ _ _ _ _ (X0.segAt (by exact zB)) (noneS _ _ _ _ _ _ _ _ _)).mono ?_
  rintro _ w6 ⟨rfl,hbw6⟩
  have hB6:Below w.heap.size w w6:=bT (by exact zB) hbw6
  have hC6:Below w5.heap.size w5 w6:=bT (by exact zB) hbw6
  have hsw6:=hbw6.size;(try (simp at hsw6));have zz:=hQ hbw6 (b:=w.heap.size);(first|(simp [go_sem,z_w,l_w] at zz)|(simp [go_sem] at zz));(try clear x_w f_w);(try clear z_w);have z_w:=zz;clear zz;(try clear l_w);obtain ⟨x_w,f_w,l_w⟩:=bO z_w;have zz:=hQ hbw6 (b:=w4.heap.size);(first|(simp [go_sem,z_w4,l_w4] at zz)|(simp [go_sem] at zz));(try clear x_w4 f_w4);(try clear z_w4);have z_w4:=zz;clear zz;(try clear l_w4);obtain ⟨x_w4,f_w4,l_w4⟩:=bO z_w4
  clear hbw6
  replace X0:=X0.below hC6
  go_upto_region 10 with fail
  refine wp_region_inv [[],[],[1],[0,1,2],[0,1,2,3]] [22,23,24,25,26] (fun l s wx=>(Below w6.heap.size w6 wx)∧(l 0=true→s 22=.agg (wvals x (.slice (some ⟨y1,0,none⟩) x.ch.cells.length x.ch.cells.length) (.slice (some ⟨y2,0,none⟩) x.ch.words.length x.ch.words.length) (.slice (some ⟨y3,0,none⟩) x.hands.length x.hands.length) (.slice (some ⟨y4,0,none⟩) x.deals.length x.deals.length)))∧(l 1=true→s 23=.agg (wvals x (.slice a x.ch.cells.length p1) (.slice b x.ch.words.length p2) (.slice d x.hands.length p3) (.slice e x.deals.length p4)))∧(l 2=true→∃ g1 g2 g3 g4:Nat,s 24=.agg (wvals x (.slice (some ⟨g1,0,none⟩) x.ch.cells.length x.ch.cells.length) (.slice (some ⟨g2,0,none⟩) x.ch.words.length x.ch.words.length) (.slice (some ⟨g3,0,none⟩) x.hands.length x.hands.length) (.slice (some ⟨g4,0,none⟩) x.deals.length x.deals.length))∧MadeW wx w6.heap.size x g1 g2 g3 g4)∧(l 3=true→s 25=.bool true)∧(l 4=true→s 26=.bool false)) (by kernel_rfl) (by kernel_rfl) (by kernel_rfl) (fun s=>by (simp only [fill,fillA,List.setIfInBounds_toArray,List.set_cons_zero,List.set_cons_succ];rfl)) (fun s=>⟨(Below.refl _ _).drew,fun h=>absurd h Bool.false_ne_true,fun h=>absurd h Bool.false_ne_true,fun h=>absurd h Bool.false_ne_true,fun h=>absurd h Bool.false_ne_true,fun h=>absurd h Bool.false_ne_true⟩) ?_ ?_
  refine ⟨?_,?_,?_,?_,?_,trivial⟩;rotate_left 5
  · intro l s w7 hall hf
    have ec:=hf.2.2.2.2.2 (hall 4 rfl)
    have hC7:Below w6.heap.size w6 w7:=hf.1
    simp only [ec]
    clear ec hf hall
    have hB7:Below w.heap.size w w7:=bT hB6 hC7
    have hsw7:=hC7.size
    replace X0:=X0.below hC7
    replace z_w:=hpS z_w hC7
    clear x_w f_w l_w
    obtain ⟨x_w,f_w,l_w⟩:=bO z_w
    replace z_w4:=hpS z_w4 hC7
    clear x_w4 f_w4 l_w4
    obtain ⟨x_w4,f_w4,l_w4⟩:=bO z_w4
    go_wp2
    go_ret
    exact ⟨rfl,hB7⟩
  · intro l s wx hl hd hn hf0 K hK
    have hf:=Lib.hid hf0
    clear hf0
    have hB:=hf.out.1
    have z:=hpS z_w4 hB
    go_simp
    refine hK.out (upd s 22 (.agg (wvals x (.slice (some ⟨y1,0,none⟩) x.ch.cells.length x.ch.cells.length) (.slice (some ⟨y2,0,none⟩) x.ch.words.length x.ch.words.length) (.slice (some ⟨y3,0,none⟩) x.hands.length x.hands.length) (.slice (some ⟨y4,0,none⟩) x.deals.length x.deals.length)))) _ _ (by simp [upd_at] <;> rfl) ⟨hf.out.1,fun _=>rfl,fun h=>(hf.out.2.2.1 h),fun h=>(hf.out.2.2.2.1 h),fun h=>absurd h (by rw [show upd l 0 true 3=l 3 from rfl,hn 3 rfl];exact Bool.false_ne_true),fun h=>absurd h (by rw [show upd l 0 true 4=l 4 from rfl,hn 4 rfl];exact Bool.false_ne_true)⟩
  · intro l s wx hl hd hn hf0 K hK
    have hf:=Lib.hid hf0
    clear hf0
    have hB:=hf.out.1
    have z:=hpS z_w hB
    go_simp
    refine hK.out (upd s 23 (.agg (wvals x (.slice a x.ch.cells.length p1) (.slice b x.ch.words.length p2) (.slice d x.hands.length p3) (.slice e x.deals.length p4)))) _ _ (by simp [upd_at] <;> rfl) ⟨hf.out.1,fun h=>(hf.out.2.1 h),fun _=>rfl,fun h=>absurd h (by rw [show upd l 1 true 2=l 2 from rfl,hn 2 rfl];exact Bool.false_ne_true),fun h=>absurd h (by rw [show upd l 1 true 3=l 3 from rfl,hn 3 rfl];exact Bool.false_ne_true),fun h=>absurd h (by rw [show upd l 1 true 4=l 4 from rfl,hn 4 rfl];exact Bool.false_ne_true)⟩
  · intro l s wx hl hd hn hf0 K hK
    have hf:=Lib.hid hf0
    clear hf0
    have e1:=(hf.out.2.2.1 (hd 1 rfl))
    have hB:=hf.out.1
    go_simp
    go_at_call 8
    refine (toWorldB x a b d e p1 p2 p3 p4 _ (((H.out.below (bT hB6 hB))).more (bT hB6 hB).size) m).mono ?_
    rintro _ wy ⟨⟨g1,g2,g3,g4,rfl,G⟩,hE⟩
    refine hK.out (upd s 24 (.agg (wvals x (.slice (some ⟨g1,0,none⟩) x.ch.cells.length x.ch.cells.length) (.slice (some ⟨g2,0,none⟩) x.ch.words.length x.ch.words.length) (.slice (some ⟨g3,0,none⟩) x.hands.length x.hands.length) (.slice (some ⟨g4,0,none⟩) x.deals.length x.deals.length)))) _ _ (by simp [upd_at,e1] <;> rfl) ⟨bT hf.out.1 hE,fun h=>(hf.out.2.1 h),fun h=>(hf.out.2.2.1 h),fun _=>⟨g1,g2,g3,g4,rfl,MadeW.lo' G hB.size⟩,fun h=>absurd h (by rw [show upd l 2 true 3=l 3 from rfl,hn 3 rfl];exact Bool.false_ne_true),fun h=>absurd h (by rw [show upd l 2 true 4=l 4 from rfl,hn 4 rfl];exact Bool.false_ne_true)⟩
  · intro l s wx hl hd hn hf0 K hK
    have hf:=Lib.hid hf0
    clear hf0
    have e0:=(hf.out.2.1 (hd 0 rfl))
    have hB:=hf.out.1
    obtain ⟨g1,g2,g3,g4,e2,G⟩:=(hf.out.2.2.2.1 (hd 2 rfl))
    go_simp
    go_at_call 10
    refine (eqWorld_any x _ _ _ _ _ _ _ _ _ _ _ _ _ _ _ _ _ (X0.segAt hB) (MadeW.seg G) m).mono ?_
    rintro _ wy ⟨rfl,hE⟩
    refine hK.out (upd s 25 (.bool true)) _ _ (by simp [upd_at,e0,e2] <;> rfl) ⟨bT hf.out.1 hE,fun h=>(hf.out.2.1 h),fun h=>(hf.out.2.2.1 h),fun h=>(let ⟨g1,g2,g3,g4,e,R⟩:=(hf.out.2.2.2.1 h);⟨g1,g2,g3,g4,e,MadeW.belowS R hE⟩),fun _=>rfl,fun h=>absurd h (by rw [show upd l 3 true 4=l 4 from rfl,hn 4 rfl];exact Bool.false_ne_true)⟩
  · intro l s wx hl hd hn hf0 K hK
    have hf:=Lib.hid hf0
    clear hf0
    have e3:=(hf.out.2.2.2.2.1 (hd 3 rfl))
    have hB:=hf.out.1
    go_simp
    refine hK.out (upd s 26 (.bool false)) _ _ (by simp [upd_at,e3] <;> rfl) ⟨hf.out.1,fun h=>(hf.out.2.1 h),fun h=>(hf.out.2.2.1 h),fun h=>(hf.out.2.2.2.1 h),fun h=>(hf.out.2.2.2.2.1 h),fun _=>rfl⟩
set_option maxRecDepth 100000 in
set_option maxHeartbeats 8000000 in
theorem exactNewWorld_any (cp:Int) (tk:Int) (y:Wo) (tb:Bool) (my:LenW y) (w:World)
    (hs:∀ (w:World),Calls Try.prog 11 #[.int .i64 cp,.int .i64 tk] w fun r' w'=>WordW w w' y (.bool tb) r')
    (hi:∀ (w:World),Calls Try.prog 12 #[.int .i64 cp,.int .i64 tk] w fun r' w'=>WordW w w' y (.bool tb) r') :
    Calls Try.prog 4 #[.int .i64 cp,.int .i64 tk] w fun r w'=>r=.returned (.bool true)∧Below w.heap.size w w':=by
  have HS:=Lib.hid hs
  have HI:=Lib.hid hi
  have hsumy:=wsum_pos y
  clear hs hi
  go_enter Try.func4,Try.ntmps4
  go_wp2_with fail
  refine (HS.out _).mono ?_
  rintro _ w1 ⟨⟨ua,ub,ud,ue,up1,up2,up3,up4,rfl,UL,UA⟩,hbw1⟩
  have hB1:Below w.heap.size w w1:=bT (by exact zB) hbw1
  have hC1:Below w.heap.size w w1:=bT (by exact zB) hbw1
  have hsw1:=hbw1.size;(try (simp at hsw1))
  clear hbw1
  go_upto_region 2 with fail
  generalize hw2:World.alloc w1 _=w2
  have z_w1:hp w2 w1.heap.size=some (.cells (wvals y (.slice ua y.ch.cells.length up1) (.slice ub y.ch.words.length up2) (.slice ud y.hands.length up3) (.slice ue y.deals.length up4)) 38):=by rw [← hw2];exact heap_alloc_new _ _
  have hC2:Below w1.heap.size w1 w2:=by rw [← hw2];exact belowAlloc _ _
  have hsw2:w2.heap.size=w1.heap.size+1:=by rw [← hw2];exact alloc_sz _ _
  clear hw2
  have hB2:Below w.heap.size w w2:=bT hB1 hC2
  obtain ⟨x_w1,f_w1,l_w1⟩:=bO z_w1
  replace UL:=UL.below hC2
  go_wp2_with fail
  refine (HI.out _).mono ?_
  rintro _ w3 ⟨⟨ga,gb,gd,ge,gp1,gp2,gp3,gp4,rfl,GL,GA⟩,hbw3⟩
  have hB3:Below w.heap.size w w3:=bT (by exact zB) hbw3
  have hC3:Below w2.heap.size w2 w3:=bT (by exact zB) hbw3
  have hsw3:=hbw3.size;(try (simp at hsw3));have zz:=hQ hbw3 (b:=w1.heap.size);(first|(simp [go_sem,z_w1,l_w1] at zz)|(simp [go_sem] at zz));(try clear x_w1 f_w1);(try clear z_w1);have z_w1:=zz;clear zz;(try clear l_w1);obtain ⟨x_w1,f_w1,l_w1⟩:=bO z_w1
  clear hbw3
  replace UL:=UL.below hC3
  go_upto_region 3 with fail
  generalize hw4:World.alloc w3 _=w4
  have z_w3:hp w4 w3.heap.size=some (.cells (wvals y (.slice ga y.ch.cells.length gp1) (.slice gb y.ch.words.length gp2) (.slice gd y.hands.length gp3) (.slice ge y.deals.length gp4)) 38):=by rw [← hw4];exact heap_alloc_new _ _
  have hC4:Below w3.heap.size w3 w4:=by rw [← hw4];exact belowAlloc _ _
  have hsw4:w4.heap.size=w3.heap.size+1:=by rw [← hw4];exact alloc_sz _ _
  clear hw4
  have hB4:Below w.heap.size w w4:=bT hB3 hC4
  obtain ⟨x_w3,f_w3,l_w3⟩:=bO z_w3
  replace UL:=UL.below hC4
  replace GL:=GL.below hC4
  replace z_w1:=hpS z_w1 hC4
  clear x_w1 f_w1 l_w1
  obtain ⟨x_w1,f_w1,l_w1⟩:=bO z_w1
  go_wp2_with fail
  refine (eqWorld_any y _ _ _ _ _ _ _ _ _ _ _ _ _ _ _ _ _ (GL.segAt (by exact zB)) (UL.segAt (by exact zB)) my).mono ?_
  rintro _ w5 ⟨rfl,hbw5⟩
  have hB5:Below w.heap.size w w5:=bT (by exact zB) hbw5
  have hC5:Below w4.heap.size w4 w5:=bT (by exact zB) hbw5
  have hsw5:=hbw5.size;(try (simp at hsw5));have zz:=hQ hbw5 (b:=w1.heap.size);(first|(simp [go_sem,z_w1,l_w1] at zz)|(simp [go_sem] at zz));(try clear x_w1 f_w1);(try clear z_w1);have z_w1:=zz;clear zz;(try clear l_w1);obtain ⟨x_w1,f_w1,l_w1⟩:=bO z_w1;have zz:=hQ hbw5 (b:=w3.heap.size);(first|(simp [go_sem,z_w3,l_w3] at zz)|(simp [go_sem] at zz));(try clear x_w3 f_w3);(try clear z_w3);have z_w3:=zz;clear zz;(try clear l_w3);obtain ⟨x_w3,f_w3,l_w3⟩:=bO z_w3
  clear hbw5
  replace UL:=UL.below hC5
  replace GL:=GL.below hC5
  go_wp2_with fail
  refine (markWorld_any y _ _ _ _ _ _ _ _ _ _ _ (GL.below (by exact zB)) GA my).mono ?_
  rintro _ w6 ⟨rfl,M_GL,hP⟩
  replace hP:OnlP _ w5 w6:=OnlP.trans (OnlP.of_below (by exact zB)) hP
  have hO:OnlR w2.heap.size w3.heap.size w5 w6:=hP.toR fun i o=>by have:=NewW.ofW (w':=w) GL i o;omega
  have hsw6:=hO.2.2.2.1
  have hB6:Below w.heap.size w w6:=OnlR.below hB5 hO (by omega) (by omega)
  replace UL:=UL.keptR hO (by omega)
  replace z_w1:=hO.hpk z_w1 (by omega)
  clear x_w1 f_w1 l_w1
  obtain ⟨x_w1,f_w1,l_w1⟩:=bO z_w1
  replace z_w3:=hO.hpk z_w3 (by omega)
  clear x_w3 f_w3 l_w3
  obtain ⟨x_w3,f_w3,l_w3⟩:=bO z_w3
  clear GL hO hP
  have GL:=M_GL
  clear M_GL
  go_wp2_with fail
  refine (heldWorld_any y _ _ _ _ _ _ _ _ _ _ _ (GL.below (by exact zB)) my).mono ?_
  rintro _ w7 ⟨rfl,hbw7⟩
  have hB7:Below w.heap.size w w7:=bT (by exact zB) hbw7
  have hC7:Below w6.heap.size w6 w7:=bT (by exact zB) hbw7
  have hsw7:=hbw7.size;(try (simp at hsw7));have zz:=hQ hbw7 (b:=w1.heap.size);(first|(simp [go_sem,z_w1,l_w1] at zz)|(simp [go_sem] at zz));(try clear x_w1 f_w1);(try clear z_w1);have z_w1:=zz;clear zz;(try clear l_w1);obtain ⟨x_w1,f_w1,l_w1⟩:=bO z_w1;have zz:=hQ hbw7 (b:=w3.heap.size);(first|(simp [go_sem,z_w3,l_w3] at zz)|(simp [go_sem] at zz));(try clear x_w3 f_w3);(try clear z_w3);have z_w3:=zz;clear zz;(try clear l_w3);obtain ⟨x_w3,f_w3,l_w3⟩:=bO z_w3
  clear hbw7
  replace UL:=UL.below hC7
  replace GL:=GL.below hC7
  go_wp2_with fail
  refine (HI.out _).mono ?_
  rintro _ w8 ⟨⟨ha,hb,hd,he,hp1,hp2,hp3,hp4,rfl,HL,HA⟩,hbw8⟩
  have hB8:Below w.heap.size w w8:=bT (by exact zB) hbw8
  have hC8:Below w7.heap.size w7 w8:=bT (by exact zB) hbw8
  have hsw8:=hbw8.size;(try (simp at hsw8));have zz:=hQ hbw8 (b:=w1.heap.size);(first|(simp [go_sem,z_w1,l_w1] at zz)|(simp [go_sem] at zz));(try clear x_w1 f_w1);(try clear z_w1);have z_w1:=zz;clear zz;(try clear l_w1);obtain ⟨x_w1,f_w1,l_w1⟩:=bO z_w1;have zz:=hQ hbw8 (b:=w3.heap.size);(first|(simp [go_sem,z_w3,l_w3] at zz)|(simp [go_sem] at zz));(try clear x_w3 f_w3);(try clear z_w3);have z_w3:=zz;clear zz;(try clear l_w3);obtain ⟨x_w3,f_w3,l_w3⟩:=bO z_w3
  clear hbw8
  replace UL:=UL.below hC8
  replace GL:=GL.below hC8
  go_upto_region 14 with fail
  generalize hw9:World.alloc w8 _=w9
  have z_w8:hp w9 w8.heap.size=some (.cells (wvals y (.slice ha y.ch.cells.length hp1) (.slice hb y.ch.words.length hp2) (.slice hd y.hands.length hp3) (.slice he y.deals.length hp4)) 38):=by rw [← hw9];exact heap_alloc_new _ _
  have hC9:Below w8.heap.size w8 w9:=by rw [← hw9];exact belowAlloc _ _
  have hsw9:w9.heap.size=w8.heap.size+1:=by rw [← hw9];exact alloc_sz _ _
  clear hw9
  have hB9:Below w.heap.size w w9:=bT hB8 hC9
  obtain ⟨x_w8,f_w8,l_w8⟩:=bO z_w8
  replace UL:=UL.below hC9
  replace GL:=GL.below hC9
  replace HL:=HL.below hC9
  replace z_w1:=hpS z_w1 hC9
  clear x_w1 f_w1 l_w1
  obtain ⟨x_w1,f_w1,l_w1⟩:=bO z_w1
  replace z_w3:=hpS z_w3 hC9
  clear x_w3 f_w3 l_w3
  obtain ⟨x_w3,f_w3,l_w3⟩:=bO z_w3
  go_wp2_with fail
  refine (eqWorld_any y _ _ _ _ _ _ _ _ _ _ _ _ _ _ _ _ _ (HL.segAt (by exact zB)) (UL.segAt (by exact zB)) my).mono ?_
  rintro _ w10 ⟨rfl,hbw10⟩
  have hB10:Below w.heap.size w w10:=bT (by exact zB) hbw10
  have hC10:Below w9.heap.size w9 w10:=bT (by exact zB) hbw10
  have hsw10:=hbw10.size;(try (simp at hsw10));have zz:=hQ hbw10 (b:=w1.heap.size);(first|(simp [go_sem,z_w1,l_w1] at zz)|(simp [go_sem] at zz));(try clear x_w1 f_w1);(try clear z_w1);have z_w1:=zz;clear zz;(try clear l_w1);obtain ⟨x_w1,f_w1,l_w1⟩:=bO z_w1;have zz:=hQ hbw10 (b:=w3.heap.size);(first|(simp [go_sem,z_w3,l_w3] at zz)|(simp [go_sem] at zz));(try clear x_w3 f_w3);(try clear z_w3);have z_w3:=zz;clear zz;(try clear l_w3);obtain ⟨x_w3,f_w3,l_w3⟩:=bO z_w3;have zz:=hQ hbw10 (b:=w8.heap.size);(first|(simp [go_sem,z_w8,l_w8] at zz)|(simp [go_sem] at zz));(try clear x_w8 f_w8);(try clear z_w8);have z_w8:=zz;clear zz;(try clear l_w8);obtain ⟨x_w8,f_w8,l_w8⟩:=bO z_w8
  clear hbw10
  replace UL:=UL.below hC10
  replace GL:=GL.below hC10
  replace HL:=HL.below hC10
  go_wp2_with fail
  refine (heldWorld_any y _ _ _ _ _ _ _ _ _ _ _ (GL.below (by exact zB)) my).mono ?_
  rintro _ w11 ⟨rfl,hbw11⟩
  have hB11:Below w.heap.size w w11:=bT (by exact zB) hbw11
  have hC11:Below w10.heap.size w10 w11:=bT (by exact zB) hbw11
  have hsw11:=hbw11.size;(try (simp at hsw11));have zz:=hQ hbw11 (b:=w1.heap.size);(first|(simp [go_sem,z_w1,l_w1] at zz)|(simp [go_sem] at zz));(try clear x_w1 f_w1);(try clear z_w1);have z_w1:=zz;clear zz;(try clear l_w1);obtain ⟨x_w1,f_w1,l_w1⟩:=bO z_w1;have zz:=hQ hbw11 (b:=w3.heap.size);(first|(simp [go_sem,z_w3,l_w3] at zz)|(simp [go_sem] at zz));(try clear x_w3 f_w3);(try clear z_w3);have z_w3:=zz;clear zz;(try clear l_w3);obtain ⟨x_w3,f_w3,l_w3⟩:=bO z_w3;have zz:=hQ hbw11 (b:=w8.heap.size);(first|(simp [go_sem,z_w8,l_w8] at zz)|(simp [go_sem] at zz));(try clear x_w8 f_w8);(try clear z_w8);have z_w8:=zz;clear zz;(try clear l_w8);obtain ⟨x_w8,f_w8,l_w8⟩:=bO z_w8
  clear hbw11
  replace UL:=UL.below hC11
  replace GL:=GL.below hC11
  replace HL:=HL.below hC11
  go_wp2
  go_ret
  exact ⟨rfl,hB11⟩
set_option maxRecDepth 100000 in
set_option maxHeartbeats 8000000 in
theorem exactAsked_any (x:Wo) (who kk ee:Int) (y:Wo) (tn:Int) (hy:LenW x→LenW y) (a b d e:Option Addr) (p1 p2 p3 p4:Nat) (w:World) (h:SegW w w.heap.size x a b d e) (m:x.ch.cells.length≤maxLen∧x.ch.words.length≤maxLen∧x.hands.length≤maxLen∧x.deals.length≤maxLen)
    (hs:LenW x→∀ (a b d e:Option Addr) (p1 p2 p3 p4:Nat) (w:World),SegW w w.heap.size x a b d e→NoneW x a b d e p1 p2 p3 p4→Calls Try.prog 15 #[.agg (wvals x (.slice a x.ch.cells.length p1) (.slice b x.ch.words.length p2) (.slice d x.hands.length p3) (.slice e x.deals.length p4)),.int .i64 who,.agg #[.int .i64 kk,.int .i64 ee]] w fun r' w'=>WordR w w' y (.int .i64 tn) r')
    (hi:LenW x→∀ (a b d e:Option Addr) (p1 p2 p3 p4:Nat) (w:World),SegW w w.heap.size x a b d e→NoneW x a b d e p1 p2 p3 p4→Calls Try.prog 17 #[.agg (wvals x (.slice a x.ch.cells.length p1) (.slice b x.ch.words.length p2) (.slice d x.hands.length p3) (.slice e x.deals.length p4)),.int .i64 who,.agg #[.int .i64 kk,.int .i64 ee]] w fun r' w'=>WordR w w' y (.int .i64 tn) r') :
    Calls Try.prog 5 #[.agg (wvals x (.slice a x.ch.cells.length p1) (.slice b x.ch.words.length p2) (.slice d x.hands.length p3) (.slice e x.deals.length p4)),.int .i64 who,.agg #[.int .i64 kk,.int .i64 ee]] w fun r w'=>r=.returned (.bool true)∧Below w.heap.size w w':=by
  have H:=Lib.hid h
  have M:=Lib.hid m
  have HS:=Lib.hid hs
  have HI:=Lib.hid hi
  clear h m hs hi
  have hsum:=wsum_pos x
  have hsumy:=wsum_pos y
  go_enter Try.func5,Try.ntmps5
  go_wp2_with fail
  refine (szWorld_any x a b d e p1 p2 p3 p4 1048576 _ (by omega) (by omega) M.out.1 M.out.2.1 M.out.2.2.1 M.out.2.2.2).mono ?_
  rintro _ w1 ⟨⟨z,rfl,hz⟩,hbw1⟩
  have hB1:Below w.heap.size w w1:=bT (by exact zB) hbw1
  have hC1:Below w.heap.size w w1:=bT (by exact zB) hbw1
  have hsw1:=hbw1.size;(try (simp at hsw1));have zz:=hQ hbw1 (b:=w.heap.size);(first|(simp [go_sem,z_w,l_w] at zz)|(simp [go_sem] at zz));(try clear x_w f_w);(try clear z_w);have z_w:=zz;clear zz;(try clear l_w);obtain ⟨x_w,f_w,l_w⟩:=bO z_w;have zz:=hQ hbw1 (b:=w.heap.size+1);(first|(simp [go_sem,z_wp,l_wp] at zz)|(simp [go_sem] at zz));(try clear x_wp f_wp);(try clear z_wp);have z_wp:=zz;clear zz;(try clear l_wp);obtain ⟨x_wp,f_wp,l_wp⟩:=bO z_wp
  clear hbw1
  by_cases hn:z<0
  · go_wp2
    go_ret
    exact ⟨rfl,hB1⟩
  have m:=hz (by omega)
  clear hz
  have my:=hy m
  clear hy
  replace HS:=Lib.hid (HS.out m)
  replace HI:=Lib.hid (HI.out m)
  go_upto_region 5 with fail
  refine wp_region_inv [[],[0],[],[],[3],[0,1,2,3,4],[0,1,2,3,4,5],[0,1,2,3,4,5,6],[0,1,2,3,4,5,6],[],[0,1,2,3,4,5,6,7,9],[0,1,2,3,4,5,6,8]] [24,25,26,27,28,29,23,30,31,8,9] (fun l s wx=>(Below w1.heap.size w1 wx)∧(l 0=true→s 24=.agg (wvals x (.slice a x.ch.cells.length p1) (.slice b x.ch.words.length p2) (.slice d x.hands.length p3) (.slice e x.deals.length p4)))∧(l 1=true→l 5=false→∃ g1 g2 g3 g4:Nat,s 25=.agg (wvals x (.slice (some ⟨g1,0,none⟩) x.ch.cells.length x.ch.cells.length) (.slice (some ⟨g2,0,none⟩) x.ch.words.length x.ch.words.length) (.slice (some ⟨g3,0,none⟩) x.hands.length x.hands.length) (.slice (some ⟨g4,0,none⟩) x.deals.length x.deals.length))∧MadeW wx w1.heap.size x g1 g2 g3 g4)∧(l 2=true→s 26=.int .i64 who)∧(l 3=true→s 27=.agg #[.int .i64 kk,.int .i64 ee])∧(l 4=true→s 28=.agg #[.int .i64 kk,.int .i64 ee])∧(l 5=true→s 29=.tuple #[.agg (wvals y (s 1003) (s 1004) (s 1005) (s 1006)),.int .i64 tn]∧WOwn wx w1.heap.size (s 1003) (s 1004) (s 1005) (s 1006) y)∧(l 6=true→s 23=.tuple #[.agg (wvals y (s 1003) (s 1004) (s 1005) (s 1006)),.int .i64 tn])∧(l 7=true→s 30=.agg (wvals y (s 1003) (s 1004) (s 1005) (s 1006)))∧(l 8=true→s 31=.int .i64 tn)∧(l 9=true→IsBox wx (s 8) w1.heap.size (cond (l 10) (wvals y (s 1003) (s 1004) (s 1005) (s 1006)) (wvals Wo.zero (.slice none 0 0) (.slice none 0 0) (.slice none 0 0) (.slice none 0 0))) 38)∧(l 11=true→s 9=.int .i64 tn)) (by kernel_rfl) (by kernel_rfl) (by kernel_rfl) (fun s=>by (simp only [fill,fillA,List.setIfInBounds_toArray,List.set_cons_zero,List.set_cons_succ];rfl)) (fun s=>⟨(Below.refl _ _).drew,fun h=>absurd h Bool.false_ne_true,fun h=>absurd h Bool.false_ne_true,fun h=>absurd h Bool.false_ne_true,fun h=>absurd h Bool.false_ne_true,fun h=>absurd h Bool.false_ne_true,fun h=>absurd h Bool.false_ne_true,fun h=>absurd h Bool.false_ne_true,fun h=>absurd h Bool.false_ne_true,fun h=>absurd h Bool.false_ne_true,fun h=>absurd h Bool.false_ne_true,fun h=>absurd h Bool.false_ne_true⟩) ?_ ?_
  refine ⟨?_,?_,?_,?_,?_,?_,?_,?_,?_,?_,?_,?_,trivial⟩;rotate_left 12
  · intro l s w2 hall hf
    have hC2:Below w1.heap.size w1 w2:=hf.1
    have X:=(hf.2.2.2.2.2.2.1 (hall 5 rfl)).2
    obtain ⟨b8,ea,lo_b8,z_b8⟩:=hf.2.2.2.2.2.2.2.2.2.2.1 (hall 9 rfl)
    have ec:=hf.2.2.2.2.2.2.2.2.2.2.2 (hall 11 rfl)
    rw [hall 10 rfl] at z_b8
    dsimp only [cond] at z_b8
    simp only [ea,ec]
    clear ea ec hf hall
    generalize s 1003=v1 at *
    generalize s 1004=v2 at *
    generalize s 1005=v3 at *
    generalize s 1006=v4 at *
    have hoff:=X.offs z_b8
    obtain ⟨ua,ub,ud,ue,up1,up2,up3,up4,rfl,rfl,rfl,rfl,UL,UA⟩:=X.new
    have off_b8:¬ OfW ua ub ud ue b8:=fun o=>hoff (o.imp (ownBlock_len _ _ _).trans (Or.imp (ownBlock_len _ _ _).trans (Or.imp (ownBlock_len _ _ _).trans (ownBlock_len _ _ _).trans)))
    clear hoff X
    have hB2:Below w.heap.size w w2:=bT hB1 hC2
    have hsw2:=hC2.size
    obtain ⟨x_b8,f_b8,l_b8⟩:=bO z_b8
    have u_b8:=l_b8
    replace z_w:=hpS z_w hC2
    clear x_w f_w l_w
    obtain ⟨x_w,f_w,l_w⟩:=bO z_w
    replace z_wp:=hpS z_wp hC2
    clear x_wp f_wp l_wp
    obtain ⟨x_wp,f_wp,l_wp⟩:=bO z_wp
    go_wp2_with fail
    refine (toWorldB x a b d e p1 p2 p3 p4 _ (((H.out.below (by exact zB)).more (by (try simp) <;> omega))) m).mono ?_
    rintro _ w3 ⟨⟨y1,y2,y3,y4,rfl,Y⟩,hbw3⟩
    have hB3:Below w.heap.size w w3:=bT (by exact zB) hbw3
    have hC3:Below w2.heap.size w2 w3:=bT (by exact zB) hbw3
    have hsw3:=hbw3.size;(try (simp at hsw3));have zz:=hQ hbw3 (b:=w.heap.size);(first|(simp [go_sem,z_w,l_w] at zz)|(simp [go_sem] at zz));(try clear x_w f_w);(try clear z_w);have z_w:=zz;clear zz;(try clear l_w);obtain ⟨x_w,f_w,l_w⟩:=bO z_w;have zz:=hQ hbw3 (b:=w.heap.size+1);(first|(simp [go_sem,z_wp,l_wp] at zz)|(simp [go_sem] at zz));(try clear x_wp f_wp);(try clear z_wp);have z_wp:=zz;clear zz;(try clear l_wp);obtain ⟨x_wp,f_wp,l_wp⟩:=bO z_wp;have zz:=hQ hbw3 (b:=b8);(first|(simp [go_sem,z_b8,l_b8] at zz)|(simp [go_sem] at zz));(try clear x_b8 f_b8);(try clear z_b8);have z_b8:=zz;clear zz;(try clear l_b8);obtain ⟨x_b8,f_b8,l_b8⟩:=bO z_b8
    clear hbw3
    replace UL:=UL.below hC3
    obtain ⟨X0,A0⟩:=Y.new
    clear Y
    go_upto_region 7 with fail
    generalize hw4:World.alloc w3 _=w4
    have z_w3:hp w4 w3.heap.size=some (.cells (wvals x (.slice (some ⟨y1,0,none⟩) x.ch.cells.length x.ch.cells.length) (.slice (some ⟨y2,0,none⟩) x.ch.words.length x.ch.words.length) (.slice (some ⟨y3,0,none⟩) x.hands.length x.hands.length) (.slice (some ⟨y4,0,none⟩) x.deals.length x.deals.length)) 38):=by rw [← hw4];exact heap_alloc_new _ _
    have hC4:Below w3.heap.size w3 w4:=by rw [← hw4];exact belowAlloc _ _
    have hsw4:w4.heap.size=w3.heap.size+1:=by rw [← hw4];exact alloc_sz _ _
    clear hw4
    have hB4:Below w.heap.size w w4:=bT hB3 hC4
    obtain ⟨x_w3,f_w3,l_w3⟩:=bO z_w3
    replace UL:=UL.below hC4
    replace X0:=X0.below hC4
    replace z_w:=hpS z_w hC4
    clear x_w f_w l_w
    obtain ⟨x_w,f_w,l_w⟩:=bO z_w
    replace z_wp:=hpS z_wp hC4
    clear x_wp f_wp l_wp
    obtain ⟨x_wp,f_wp,l_wp⟩:=bO z_wp
    replace z_b8:=hpS z_b8 hC4
    clear x_b8 f_b8 l_b8
    obtain ⟨x_b8,f_b8,l_b8⟩:=bO z_b8
    go_upto_region 7 with fail
    refine wp_region_inv [[],[],[],[2],[0,1,2,3],[0,1,2,3,4],[0,1,2,3,4,5],[0,1,2,3,4,5],[],[0,1,2,3,4,5,6,8],[0,1,2,3,4,5,7]] [35,36,37,38,39,34,40,41,11,12] (fun l s wx=>(Below w4.heap.size w4 wx)∧(l 0=true→s 35=.agg (wvals x (.slice (some ⟨y1,0,none⟩) x.ch.cells.length x.ch.cells.length) (.slice (some ⟨y2,0,none⟩) x.ch.words.length x.ch.words.length) (.slice (some ⟨y3,0,none⟩) x.hands.length x.hands.length) (.slice (some ⟨y4,0,none⟩) x.deals.length x.deals.length)))∧(l 1=true→s 36=.int .i64 who)∧(l 2=true→s 37=.agg #[.int .i64 kk,.int .i64 ee])∧(l 3=true→s 38=.agg #[.int .i64 kk,.int .i64 ee])∧(l 4=true→s 39=.tuple #[.agg (wvals y (s 1003) (s 1004) (s 1005) (s 1006)),.int .i64 tn]∧WOwn wx w4.heap.size (s 1003) (s 1004) (s 1005) (s 1006) y)∧(l 5=true→s 34=.tuple #[.agg (wvals y (s 1003) (s 1004) (s 1005) (s 1006)),.int .i64 tn])∧(l 6=true→s 40=.agg (wvals y (s 1003) (s 1004) (s 1005) (s 1006)))∧(l 7=true→s 41=.int .i64 tn)∧(l 8=true→IsBox wx (s 11) w4.heap.size (cond (l 9) (wvals y (s 1003) (s 1004) (s 1005) (s 1006)) (wvals Wo.zero (.slice none 0 0) (.slice none 0 0) (.slice none 0 0) (.slice none 0 0))) 38)∧(l 10=true→s 12=.int .i64 tn)) (by kernel_rfl) (by kernel_rfl) (by kernel_rfl) (fun s=>by (simp only [fill,fillA,List.setIfInBounds_toArray,List.set_cons_zero,List.set_cons_succ];rfl)) (fun s=>⟨(Below.refl _ _).drew,fun h=>absurd h Bool.false_ne_true,fun h=>absurd h Bool.false_ne_true,fun h=>absurd h Bool.false_ne_true,fun h=>absurd h Bool.false_ne_true,fun h=>absurd h Bool.false_ne_true,fun h=>absurd h Bool.false_ne_true,fun h=>absurd h Bool.false_ne_true,fun h=>absurd h Bool.false_ne_true,fun h=>absurd h Bool.false_ne_true,fun h=>absurd h Bool.false_ne_true⟩) ?_ ?_
    refine ⟨?_,?_,?_,?_,?_,?_,?_,?_,?_,?_,?_,trivial⟩;rotate_left 11
    · intro l s w5 hall hf
      have hC5:Below w4.heap.size w4 w5:=hf.1
      have X:=(hf.2.2.2.2.2.1 (hall 4 rfl)).2
      obtain ⟨b11,ea,lo_b11,z_b11⟩:=hf.2.2.2.2.2.2.2.2.2.1 (hall 8 rfl)
      have ec:=hf.2.2.2.2.2.2.2.2.2.2 (hall 10 rfl)
      rw [hall 9 rfl] at z_b11
      dsimp only [cond] at z_b11
      simp only [ea,ec]
      clear ea ec hf hall
      generalize s 1003=v1 at *
      generalize s 1004=v2 at *
      generalize s 1005=v3 at *
      generalize s 1006=v4 at *
      have hoff:=X.offs z_b11
      obtain ⟨ga,gb,gd,ge,gp1,gp2,gp3,gp4,rfl,rfl,rfl,rfl,GL,GA⟩:=X.new
      have off_b11:¬ OfW ga gb gd ge b11:=fun o=>hoff (o.imp (ownBlock_len _ _ _).trans (Or.imp (ownBlock_len _ _ _).trans (Or.imp (ownBlock_len _ _ _).trans (ownBlock_len _ _ _).trans)))
      clear hoff X
      have hB5:Below w.heap.size w w5:=bT hB4 hC5
      have hsw5:=hC5.size
      obtain ⟨x_b11,f_b11,l_b11⟩:=bO z_b11
      have u_b11:=l_b11
      replace UL:=UL.below hC5
      replace X0:=X0.below hC5
      replace z_w:=hpS z_w hC5
      clear x_w f_w l_w
      obtain ⟨x_w,f_w,l_w⟩:=bO z_w
      replace z_wp:=hpS z_wp hC5
      clear x_wp f_wp l_wp
      obtain ⟨x_wp,f_wp,l_wp⟩:=bO z_wp
      replace z_b8:=hpS z_b8 hC5
      clear x_b8 f_b8 l_b8
      obtain ⟨x_b8,f_b8,l_b8⟩:=bO z_b8
      replace z_w3:=hpS z_w3 hC5
      clear x_w3 f_w3 l_w3
      obtain ⟨x_w3,f_w3,l_w3⟩:=bO z_w3
      go_wp2_with fail
      refine (eqWorld_any y _ _ _ _ _ _ _ _ _ _ _ _ _ _ _ _ _ (GL.segAt (by exact zB)) (UL.segAt (by exact zB)) my).mono ?_
      rintro _ w6 ⟨rfl,hbw6⟩
      have hB6:Below w.heap.size w w6:=bT (by exact zB) hbw6
      have hC6:Below w5.heap.size w5 w6:=bT (by exact zB) hbw6
      have hsw6:=hbw6.size;(try (simp at hsw6));have zz:=hQ hbw6 (b:=w.heap.size);(first|(simp [go_sem,z_w,l_w] at zz)|(simp [go_sem] at zz));(try clear x_w f_w);(try clear z_w);have z_w:=zz;clear zz;(try clear l_w);obtain ⟨x_w,f_w,l_w⟩:=bO z_w;have zz:=hQ hbw6 (b:=w.heap.size+1);(first|(simp [go_sem,z_wp,l_wp] at zz)|(simp [go_sem] at zz));(try clear x_wp f_wp);(try clear z_wp);have z_wp:=zz;clear zz;(try clear l_wp);obtain ⟨x_wp,f_wp,l_wp⟩:=bO z_wp;have zz:=hQ hbw6 (b:=b8);(first|(simp [go_sem,z_b8,l_b8] at zz)|(simp [go_sem] at zz));(try clear x_b8 f_b8);(try clear z_b8);have z_b8:=zz;clear zz;(try clear l_b8);obtain ⟨x_b8,f_b8,l_b8⟩:=bO z_b8;have zz:=hQ hbw6 (b:=w3.heap.size);(first|(simp [go_sem,z_w3,l_w3] at zz)|(simp [go_sem] at zz));(try clear x_w3 f_w3);(try clear z_w3);have z_w3:=zz;clear zz;(try clear l_w3);obtain ⟨x_w3,f_w3,l_w3⟩:=bO z_w3;have zz:=hQ hbw6 (b:=b11);(first|(simp [go_sem,z_b11,l_b11] at zz)|(simp [go_sem] at zz));(try clear x_b11 f_b11);(try clear z_b11);have z_b11:=zz;clear zz;(try clear l_b11);obtain ⟨x_b11,f_b11,l_b11⟩:=bO z_b11
      clear hbw6
      replace UL:=UL.below hC6
      replace X0:=X0.below hC6
      replace GL:=GL.below hC6
      go_upto_region 10 with fail
      refine wp_region_inv [[],[],[1],[0,1,2],[0,1,2,3]] [51,52,53,54,55] (fun l s wx=>(Below w6.heap.size w6 wx)∧(l 0=true→s 51=.agg (wvals x (.slice (some ⟨y1,0,none⟩) x.ch.cells.length x.ch.cells.length) (.slice (some ⟨y2,0,none⟩) x.ch.words.length x.ch.words.length) (.slice (some ⟨y3,0,none⟩) x.hands.length x.hands.length) (.slice (some ⟨y4,0,none⟩) x.deals.length x.deals.length)))∧(l 1=true→s 52=.agg (wvals x (.slice a x.ch.cells.length p1) (.slice b x.ch.words.length p2) (.slice d x.hands.length p3) (.slice e x.deals.length p4)))∧(l 2=true→∃ g1 g2 g3 g4:Nat,s 53=.agg (wvals x (.slice (some ⟨g1,0,none⟩) x.ch.cells.length x.ch.cells.length) (.slice (some ⟨g2,0,none⟩) x.ch.words.length x.ch.words.length) (.slice (some ⟨g3,0,none⟩) x.hands.length x.hands.length) (.slice (some ⟨g4,0,none⟩) x.deals.length x.deals.length))∧MadeW wx w6.heap.size x g1 g2 g3 g4)∧(l 3=true→s 54=.bool true)∧(l 4=true→s 55=.bool false)) (by kernel_rfl) (by kernel_rfl) (by kernel_rfl) (fun s=>by (simp only [fill,fillA,List.setIfInBounds_toArray,List.set_cons_zero,List.set_cons_succ];rfl)) (fun s=>⟨(Below.refl _ _).drew,fun h=>absurd h Bool.false_ne_true,fun h=>absurd h Bool.false_ne_true,fun h=>absurd h Bool.false_ne_true,fun h=>absurd h Bool.false_ne_true,fun h=>absurd h Bool.false_ne_true⟩) ?_ ?_
      refine ⟨?_,?_,?_,?_,?_,trivial⟩;rotate_left 5
      · intro l s w7 hall hf
        have ec:=hf.2.2.2.2.2 (hall 4 rfl)
        have hC7:Below w6.heap.size w6 w7:=hf.1
        simp only [ec]
        clear ec hf hall
        have hB7:Below w.heap.size w w7:=bT hB6 hC7
        have hsw7:=hC7.size
        replace UL:=UL.below hC7
        replace X0:=X0.below hC7
        replace GL:=GL.below hC7
        replace z_w:=hpS z_w hC7
        clear x_w f_w l_w
        obtain ⟨x_w,f_w,l_w⟩:=bO z_w
        replace z_wp:=hpS z_wp hC7
        clear x_wp f_wp l_wp
        obtain ⟨x_wp,f_wp,l_wp⟩:=bO z_wp
        replace z_b8:=hpS z_b8 hC7
        clear x_b8 f_b8 l_b8
        obtain ⟨x_b8,f_b8,l_b8⟩:=bO z_b8
        replace z_w3:=hpS z_w3 hC7
        clear x_w3 f_w3 l_w3
        obtain ⟨x_w3,f_w3,l_w3⟩:=bO z_w3
        replace z_b11:=hpS z_b11 hC7
        clear x_b11 f_b11 l_b11
        obtain ⟨x_b11,f_b11,l_b11⟩:=bO z_b11
        go_wp2_with fail
        refine (markWorld_any x _ _ _ _ _ _ _ _ _ _ _ (X0.below (by exact zB)) A0 m).mono ?_
        rintro _ w8 ⟨rfl,M_X0,hP⟩
        replace hP:OnlP _ w7 w8:=OnlP.trans (OnlP.of_below (by exact zB)) hP
        have hO:OnlR w2.heap.size w3.heap.size w7 w8:=hP.toR fun i o=>by have:=NewW.ofW (w':=w) X0 i o;omega
        have hsw8:=hO.2.2.2.1
        have hB8:Below w.heap.size w w8:=OnlR.below hB7 hO (by omega) (by omega)
        replace UL:=UL.keptR hO (by omega)
        replace GL:=GL.keptR hO (by omega)
        replace z_w:=hO.hpk z_w (by omega)
        clear x_w f_w l_w
        obtain ⟨x_w,f_w,l_w⟩:=bO z_w
        replace z_wp:=hO.hpk z_wp (by omega)
        clear x_wp f_wp l_wp
        obtain ⟨x_wp,f_wp,l_wp⟩:=bO z_wp
        replace z_b8:=hO.hpk z_b8 (by omega)
        clear x_b8 f_b8 l_b8
        obtain ⟨x_b8,f_b8,l_b8⟩:=bO z_b8
        replace z_w3:=hO.hpk z_w3 (by omega)
        clear x_w3 f_w3 l_w3
        obtain ⟨x_w3,f_w3,l_w3⟩:=bO z_w3
        replace z_b11:=hO.hpk z_b11 (by omega)
        clear x_b11 f_b11 l_b11
        obtain ⟨x_b11,f_b11,l_b11⟩:=bO z_b11
        clear X0 hO hP
        have X0:=M_X0
        clear M_X0
        clear X0
        go_wp2_with fail
        refine (eqWorld_any y _ _ _ _ _ _ _ _ _ _ _ _ _ _ _ _ _ (GL.segAt (by exact zB)) (UL.segAt (by exact zB)) my).mono ?_
        rintro _ w9 ⟨rfl,hbw9⟩
        have hB9:Below w.heap.size w w9:=bT (by exact zB) hbw9
        have hC9:Below w8.heap.size w8 w9:=bT (by exact zB) hbw9
        have hsw9:=hbw9.size;(try (simp at hsw9));have zz:=hQ hbw9 (b:=w.heap.size);(first|(simp [go_sem,z_w,l_w] at zz)|(simp [go_sem] at zz));(try clear x_w f_w);(try clear z_w);have z_w:=zz;clear zz;(try clear l_w);obtain ⟨x_w,f_w,l_w⟩:=bO z_w;have zz:=hQ hbw9 (b:=w.heap.size+1);(first|(simp [go_sem,z_wp,l_wp] at zz)|(simp [go_sem] at zz));(try clear x_wp f_wp);(try clear z_wp);have z_wp:=zz;clear zz;(try clear l_wp);obtain ⟨x_wp,f_wp,l_wp⟩:=bO z_wp;have zz:=hQ hbw9 (b:=b8);(first|(simp [go_sem,z_b8,l_b8] at zz)|(simp [go_sem] at zz));(try clear x_b8 f_b8);(try clear z_b8);have z_b8:=zz;clear zz;(try clear l_b8);obtain ⟨x_b8,f_b8,l_b8⟩:=bO z_b8;have zz:=hQ hbw9 (b:=w3.heap.size);(first|(simp [go_sem,z_w3,l_w3] at zz)|(simp [go_sem] at zz));(try clear x_w3 f_w3);(try clear z_w3);have z_w3:=zz;clear zz;(try clear l_w3);obtain ⟨x_w3,f_w3,l_w3⟩:=bO z_w3;have zz:=hQ hbw9 (b:=b11);(first|(simp [go_sem,z_b11,l_b11] at zz)|(simp [go_sem] at zz));(try clear x_b11 f_b11);(try clear z_b11);have z_b11:=zz;clear zz;(try clear l_b11);obtain ⟨x_b11,f_b11,l_b11⟩:=bO z_b11
        clear hbw9
        replace UL:=UL.below hC9
        replace GL:=GL.below hC9
        go_wp2_with fail
        refine (markWorld_any y _ _ _ _ _ _ _ _ _ _ _ (GL.below (by exact zB)) GA my).mono ?_
        rintro _ w10 ⟨rfl,M_GL,hP⟩
        replace hP:OnlP _ w9 w10:=OnlP.trans (OnlP.of_below (by exact zB)) hP
        have hO:OnlR w4.heap.size w5.heap.size w9 w10:=hP.toR fun i o=>by have:=NewW.ofW (w':=w) GL i o;omega
        have hsw10:=hO.2.2.2.1
        have hB10:Below w.heap.size w w10:=OnlR.below hB9 hO (by omega) (by omega)
        replace UL:=UL.keptR hO (by omega)
        replace z_w:=hO.hpk z_w (by omega)
        clear x_w f_w l_w
        obtain ⟨x_w,f_w,l_w⟩:=bO z_w
        replace z_wp:=hO.hpk z_wp (by omega)
        clear x_wp f_wp l_wp
        obtain ⟨x_wp,f_wp,l_wp⟩:=bO z_wp
        replace z_b8:=hO.hpk z_b8 (by omega)
        clear x_b8 f_b8 l_b8
        obtain ⟨x_b8,f_b8,l_b8⟩:=bO z_b8
        replace z_w3:=hO.hpk z_w3 (by omega)
        clear x_w3 f_w3 l_w3
        obtain ⟨x_w3,f_w3,l_w3⟩:=bO z_w3
        replace z_b11:=hP.hpk z_b11 off_b11
        clear x_b11 f_b11 l_b11
        obtain ⟨x_b11,f_b11,l_b11⟩:=bO z_b11
        clear GL hO hP
        have GL:=M_GL
        clear M_GL
        go_wp2_with fail
        refine (heldWorld_any y _ _ _ _ _ _ _ _ _ _ _ (GL.below (by exact zB)) my).mono ?_
        rintro _ w11 ⟨rfl,hbw11⟩
        have hB11:Below w.heap.size w w11:=bT (by exact zB) hbw11
        have hC11:Below w10.heap.size w10 w11:=bT (by exact zB) hbw11
        have hsw11:=hbw11.size;(try (simp at hsw11));have zz:=hQ hbw11 (b:=w.heap.size);(first|(simp [go_sem,z_w,l_w] at zz)|(simp [go_sem] at zz));(try clear x_w f_w);(try clear z_w);have z_w:=zz;clear zz;(try clear l_w);obtain ⟨x_w,f_w,l_w⟩:=bO z_w;have zz:=hQ hbw11 (b:=w.heap.size+1);(first|(simp [go_sem,z_wp,l_wp] at zz)|(simp [go_sem] at zz));(try clear x_wp f_wp);(try clear z_wp);have z_wp:=zz;clear zz;(try clear l_wp);obtain ⟨x_wp,f_wp,l_wp⟩:=bO z_wp;have zz:=hQ hbw11 (b:=b8);(first|(simp [go_sem,z_b8,l_b8] at zz)|(simp [go_sem] at zz));(try clear x_b8 f_b8);(try clear z_b8);have z_b8:=zz;clear zz;(try clear l_b8);obtain ⟨x_b8,f_b8,l_b8⟩:=bO z_b8;have zz:=hQ hbw11 (b:=w3.heap.size);(first|(simp [go_sem,z_w3,l_w3] at zz)|(simp [go_sem] at zz));(try clear x_w3 f_w3);(try clear z_w3);have z_w3:=zz;clear zz;(try clear l_w3);obtain ⟨x_w3,f_w3,l_w3⟩:=bO z_w3;have zz:=hQ hbw11 (b:=b11);(first|(simp [go_sem,z_b11,l_b11] at zz)|(simp [go_sem] at zz));(try clear x_b11 f_b11);(try clear z_b11);have z_b11:=zz;clear zz;(try clear l_b11);obtain ⟨x_b11,f_b11,l_b11⟩:=bO z_b11
        clear hbw11
        replace UL:=UL.below hC11
        replace GL:=GL.below hC11
        go_upto_region 24 with fail
        refine wp_region_inv [[],[0],[],[],[3],[0,1,2,3,4],[0,1,2,3,4,5],[0,1,2,3,4,5,6],[0,1,2,3,4,5,6],[],[0,1,2,3,4,5,6,7,9],[0,1,2,3,4,5,6,8]] [84,85,86,87,88,89,83,90,91,16,17] (fun l s wx=>(Below w11.heap.size w11 wx)∧(l 0=true→s 84=.agg (wvals x (.slice a x.ch.cells.length p1) (.slice b x.ch.words.length p2) (.slice d x.hands.length p3) (.slice e x.deals.length p4)))∧(l 1=true→l 5=false→∃ g1 g2 g3 g4:Nat,s 85=.agg (wvals x (.slice (some ⟨g1,0,none⟩) x.ch.cells.length x.ch.cells.length) (.slice (some ⟨g2,0,none⟩) x.ch.words.length x.ch.words.length) (.slice (some ⟨g3,0,none⟩) x.hands.length x.hands.length) (.slice (some ⟨g4,0,none⟩) x.deals.length x.deals.length))∧MadeW wx w11.heap.size x g1 g2 g3 g4)∧(l 2=true→s 86=.int .i64 who)∧(l 3=true→s 87=.agg #[.int .i64 kk,.int .i64 ee])∧(l 4=true→s 88=.agg #[.int .i64 kk,.int .i64 ee])∧(l 5=true→s 89=.tuple #[.agg (wvals y (s 1003) (s 1004) (s 1005) (s 1006)),.int .i64 tn]∧WOwn wx w11.heap.size (s 1003) (s 1004) (s 1005) (s 1006) y)∧(l 6=true→s 83=.tuple #[.agg (wvals y (s 1003) (s 1004) (s 1005) (s 1006)),.int .i64 tn])∧(l 7=true→s 90=.agg (wvals y (s 1003) (s 1004) (s 1005) (s 1006)))∧(l 8=true→s 91=.int .i64 tn)∧(l 9=true→IsBox wx (s 16) w11.heap.size (cond (l 10) (wvals y (s 1003) (s 1004) (s 1005) (s 1006)) (wvals Wo.zero (.slice none 0 0) (.slice none 0 0) (.slice none 0 0) (.slice none 0 0))) 38)∧(l 11=true→s 17=.int .i64 tn)) (by kernel_rfl) (by kernel_rfl) (by kernel_rfl) (fun s=>by (simp only [fill,fillA,List.setIfInBounds_toArray,List.set_cons_zero,List.set_cons_succ];rfl)) (fun s=>⟨(Below.refl _ _).drew,fun h=>absurd h Bool.false_ne_true,fun h=>absurd h Bool.false_ne_true,fun h=>absurd h Bool.false_ne_true,fun h=>absurd h Bool.false_ne_true,fun h=>absurd h Bool.false_ne_true,fun h=>absurd h Bool.false_ne_true,fun h=>absurd h Bool.false_ne_true,fun h=>absurd h Bool.false_ne_true,fun h=>absurd h Bool.false_ne_true,fun h=>absurd h Bool.false_ne_true,fun h=>absurd h Bool.false_ne_true⟩) ?_ ?_
        refine ⟨?_,?_,?_,?_,?_,?_,?_,?_,?_,?_,?_,?_,trivial⟩;rotate_left 12
        · intro l s w12 hall hf
          have hC12:Below w11.heap.size w11 w12:=hf.1
          have X:=(hf.2.2.2.2.2.2.1 (hall 5 rfl)).2
          obtain ⟨b16,ea,lo_b16,z_b16⟩:=hf.2.2.2.2.2.2.2.2.2.2.1 (hall 9 rfl)
          have ec:=hf.2.2.2.2.2.2.2.2.2.2.2 (hall 11 rfl)
          rw [hall 10 rfl] at z_b16
          dsimp only [cond] at z_b16
          simp only [ea,ec]
          clear ea ec hf hall
          generalize s 1003=v1 at *
          generalize s 1004=v2 at *
          generalize s 1005=v3 at *
          generalize s 1006=v4 at *
          have hoff:=X.offs z_b16
          obtain ⟨ha,hb,hd,he,hp1,hp2,hp3,hp4,rfl,rfl,rfl,rfl,HL,HA⟩:=X.new
          have off_b16:¬ OfW ha hb hd he b16:=fun o=>hoff (o.imp (ownBlock_len _ _ _).trans (Or.imp (ownBlock_len _ _ _).trans (Or.imp (ownBlock_len _ _ _).trans (ownBlock_len _ _ _).trans)))
          clear hoff X
          have hB12:Below w.heap.size w w12:=bT hB11 hC12
          have hsw12:=hC12.size
          obtain ⟨x_b16,f_b16,l_b16⟩:=bO z_b16
          have u_b16:=l_b16
          replace UL:=UL.below hC12
          replace GL:=GL.below hC12
          replace z_w:=hpS z_w hC12
          clear x_w f_w l_w
          obtain ⟨x_w,f_w,l_w⟩:=bO z_w
          replace z_wp:=hpS z_wp hC12
          clear x_wp f_wp l_wp
          obtain ⟨x_wp,f_wp,l_wp⟩:=bO z_wp
          replace z_b8:=hpS z_b8 hC12
          clear x_b8 f_b8 l_b8
          obtain ⟨x_b8,f_b8,l_b8⟩:=bO z_b8
          replace z_w3:=hpS z_w3 hC12
          clear x_w3 f_w3 l_w3
          obtain ⟨x_w3,f_w3,l_w3⟩:=bO z_w3
          replace z_b11:=hpS z_b11 hC12
          clear x_b11 f_b11 l_b11
          obtain ⟨x_b11,f_b11,l_b11⟩:=bO z_b11
          go_wp2_with fail
          refine (eqWorld_any y _ _ _ _ _ _ _ _ _ _ _ _ _ _ _ _ _ (HL.segAt (by exact zB)) (UL.segAt (by exact zB)) my).mono ?_
          rintro _ w13 ⟨rfl,hbw13⟩
          have hB13:Below w.heap.size w w13:=bT (by exact zB) hbw13
          have hC13:Below w12.heap.size w12 w13:=bT (by exact zB) hbw13
          have hsw13:=hbw13.size;(try (simp at hsw13));have zz:=hQ hbw13 (b:=w.heap.size);(first|(simp [go_sem,z_w,l_w] at zz)|(simp [go_sem] at zz));(try clear x_w f_w);(try clear z_w);have z_w:=zz;clear zz;(try clear l_w);obtain ⟨x_w,f_w,l_w⟩:=bO z_w;have zz:=hQ hbw13 (b:=w.heap.size+1);(first|(simp [go_sem,z_wp,l_wp] at zz)|(simp [go_sem] at zz));(try clear x_wp f_wp);(try clear z_wp);have z_wp:=zz;clear zz;(try clear l_wp);obtain ⟨x_wp,f_wp,l_wp⟩:=bO z_wp;have zz:=hQ hbw13 (b:=b8);(first|(simp [go_sem,z_b8,l_b8] at zz)|(simp [go_sem] at zz));(try clear x_b8 f_b8);(try clear z_b8);have z_b8:=zz;clear zz;(try clear l_b8);obtain ⟨x_b8,f_b8,l_b8⟩:=bO z_b8;have zz:=hQ hbw13 (b:=w3.heap.size);(first|(simp [go_sem,z_w3,l_w3] at zz)|(simp [go_sem] at zz));(try clear x_w3 f_w3);(try clear z_w3);have z_w3:=zz;clear zz;(try clear l_w3);obtain ⟨x_w3,f_w3,l_w3⟩:=bO z_w3;have zz:=hQ hbw13 (b:=b11);(first|(simp [go_sem,z_b11,l_b11] at zz)|(simp [go_sem] at zz));(try clear x_b11 f_b11);(try clear z_b11);have z_b11:=zz;clear zz;(try clear l_b11);obtain ⟨x_b11,f_b11,l_b11⟩:=bO z_b11;have zz:=hQ hbw13 (b:=b16);(first|(simp [go_sem,z_b16,l_b16] at zz)|(simp [go_sem] at zz));(try clear x_b16 f_b16);(try clear z_b16);have z_b16:=zz;clear zz;(try clear l_b16);obtain ⟨x_b16,f_b16,l_b16⟩:=bO z_b16
          clear hbw13
          replace UL:=UL.below hC13
          replace GL:=GL.below hC13
          replace HL:=HL.below hC13
          go_wp2_with fail
          refine (heldWorld_any y _ _ _ _ _ _ _ _ _ _ _ (GL.below (by exact zB)) my).mono ?_
          rintro _ w14 ⟨rfl,hbw14⟩
          have hB14:Below w.heap.size w w14:=bT (by exact zB) hbw14
          have hC14:Below w13.heap.size w13 w14:=bT (by exact zB) hbw14
          have hsw14:=hbw14.size;(try (simp at hsw14));have zz:=hQ hbw14 (b:=w.heap.size);(first|(simp [go_sem,z_w,l_w] at zz)|(simp [go_sem] at zz));(try clear x_w f_w);(try clear z_w);have z_w:=zz;clear zz;(try clear l_w);obtain ⟨x_w,f_w,l_w⟩:=bO z_w;have zz:=hQ hbw14 (b:=w.heap.size+1);(first|(simp [go_sem,z_wp,l_wp] at zz)|(simp [go_sem] at zz));(try clear x_wp f_wp);(try clear z_wp);have z_wp:=zz;clear zz;(try clear l_wp);obtain ⟨x_wp,f_wp,l_wp⟩:=bO z_wp;have zz:=hQ hbw14 (b:=b8);(first|(simp [go_sem,z_b8,l_b8] at zz)|(simp [go_sem] at zz));(try clear x_b8 f_b8);(try clear z_b8);have z_b8:=zz;clear zz;(try clear l_b8);obtain ⟨x_b8,f_b8,l_b8⟩:=bO z_b8;have zz:=hQ hbw14 (b:=w3.heap.size);(first|(simp [go_sem,z_w3,l_w3] at zz)|(simp [go_sem] at zz));(try clear x_w3 f_w3);(try clear z_w3);have z_w3:=zz;clear zz;(try clear l_w3);obtain ⟨x_w3,f_w3,l_w3⟩:=bO z_w3;have zz:=hQ hbw14 (b:=b11);(first|(simp [go_sem,z_b11,l_b11] at zz)|(simp [go_sem] at zz));(try clear x_b11 f_b11);(try clear z_b11);have z_b11:=zz;clear zz;(try clear l_b11);obtain ⟨x_b11,f_b11,l_b11⟩:=bO z_b11;have zz:=hQ hbw14 (b:=b16);(first|(simp [go_sem,z_b16,l_b16] at zz)|(simp [go_sem] at zz));(try clear x_b16 f_b16);(try clear z_b16);have z_b16:=zz;clear zz;(try clear l_b16);obtain ⟨x_b16,f_b16,l_b16⟩:=bO z_b16
          clear hbw14
          replace UL:=UL.below hC14
          replace GL:=GL.below hC14
          replace HL:=HL.below hC14
          go_wp2
          go_ret
          exact ⟨rfl,hB14⟩
        · intro l s wx hl hd hn hf0 K hK
          have hf:=Lib.hid hf0
          clear hf0
          have hB:=hf.out.1
          have z:=hpS z_w hB
          go_simp
          refine hK.out (upd s 84 (.agg (wvals x (.slice a x.ch.cells.length p1) (.slice b x.ch.words.length p2) (.slice d x.hands.length p3) (.slice e x.deals.length p4)))) _ _ (by simp [upd_at] <;> rfl) ⟨hf.out.1,fun _=>rfl,fun h=>absurd h (by rw [show upd l 0 true 1=l 1 from rfl,hn 1 rfl];exact Bool.false_ne_true),fun h=>(hf.out.2.2.2.1 h),fun h=>(hf.out.2.2.2.2.1 h),fun h=>(hf.out.2.2.2.2.2.1 h),fun h=>absurd h (by rw [show upd l 0 true 5=l 5 from rfl,hn 5 rfl];exact Bool.false_ne_true),fun h=>absurd h (by rw [show upd l 0 true 6=l 6 from rfl,hn 6 rfl];exact Bool.false_ne_true),fun h=>absurd h (by rw [show upd l 0 true 7=l 7 from rfl,hn 7 rfl];exact Bool.false_ne_true),fun h=>absurd h (by rw [show upd l 0 true 8=l 8 from rfl,hn 8 rfl];exact Bool.false_ne_true),fun h=>(hf.out.2.2.2.2.2.2.2.2.2.2.1 h),fun h=>absurd h (by rw [show upd l 0 true 11=l 11 from rfl,hn 11 rfl];exact Bool.false_ne_true)⟩
        · intro l s wx hl hd hn hf0 K hK
          have hf:=Lib.hid hf0
          clear hf0
          have e0:=(hf.out.2.1 (hd 0 rfl))
          have hB:=hf.out.1
          go_simp
          go_at_call 8
          refine (toWorldB x a b d e p1 p2 p3 p4 _ (((H.out.below (bT hB11 hB))).more (bT hB11 hB).size) m).mono ?_
          rintro _ wy ⟨⟨g1,g2,g3,g4,rfl,G⟩,hE⟩
          refine hK.out (upd s 85 (.agg (wvals x (.slice (some ⟨g1,0,none⟩) x.ch.cells.length x.ch.cells.length) (.slice (some ⟨g2,0,none⟩) x.ch.words.length x.ch.words.length) (.slice (some ⟨g3,0,none⟩) x.hands.length x.hands.length) (.slice (some ⟨g4,0,none⟩) x.deals.length x.deals.length)))) _ _ (by simp [upd_at,e0] <;> rfl) ⟨bT hf.out.1 hE,fun h=>(hf.out.2.1 h),fun _ _=>⟨g1,g2,g3,g4,rfl,MadeW.lo' G hB.size⟩,fun h=>(hf.out.2.2.2.1 h),fun h=>(hf.out.2.2.2.2.1 h),fun h=>(hf.out.2.2.2.2.2.1 h),fun h=>absurd h (by rw [show upd l 1 true 5=l 5 from rfl,hn 5 rfl];exact Bool.false_ne_true),fun h=>absurd h (by rw [show upd l 1 true 6=l 6 from rfl,hn 6 rfl];exact Bool.false_ne_true),fun h=>absurd h (by rw [show upd l 1 true 7=l 7 from rfl,hn 7 rfl];exact Bool.false_ne_true),fun h=>absurd h (by rw [show upd l 1 true 8=l 8 from rfl,hn 8 rfl];exact Bool.false_ne_true),fun h=>IsBox.below (hf.out.2.2.2.2.2.2.2.2.2.2.1 h) hE,fun h=>absurd h (by rw [show upd l 1 true 11=l 11 from rfl,hn 11 rfl];exact Bool.false_ne_true)⟩
        · intro l s wx hl hd hn hf0 K hK
          have hf:=Lib.hid hf0
          clear hf0
          have hB:=hf.out.1
          go_simp
          refine hK.out (upd s 86 (.int .i64 who)) _ _ (by simp [upd_at] <;> rfl) ⟨hf.out.1,fun h=>(hf.out.2.1 h),fun h=>(hf.out.2.2.1 h),fun _=>rfl,fun h=>(hf.out.2.2.2.2.1 h),fun h=>(hf.out.2.2.2.2.2.1 h),fun h=>absurd h (by rw [show upd l 2 true 5=l 5 from rfl,hn 5 rfl];exact Bool.false_ne_true),fun h=>absurd h (by rw [show upd l 2 true 6=l 6 from rfl,hn 6 rfl];exact Bool.false_ne_true),fun h=>absurd h (by rw [show upd l 2 true 7=l 7 from rfl,hn 7 rfl];exact Bool.false_ne_true),fun h=>absurd h (by rw [show upd l 2 true 8=l 8 from rfl,hn 8 rfl];exact Bool.false_ne_true),fun h=>(hf.out.2.2.2.2.2.2.2.2.2.2.1 h),fun h=>absurd h (by rw [show upd l 2 true 11=l 11 from rfl,hn 11 rfl];exact Bool.false_ne_true)⟩
        · intro l s wx hl hd hn hf0 K hK
          have hf:=Lib.hid hf0
          clear hf0
          have hB:=hf.out.1
          have z:=hpS z_wp hB
          have zc0:=(bO z).1 0
          have zc1:=(bO z).1 1
          go_simp
          refine hK.out (upd s 87 (.agg #[.int .i64 kk,.int .i64 ee])) _ _ (by simp [upd_at] <;> rfl) ⟨hf.out.1,fun h=>(hf.out.2.1 h),fun h=>(hf.out.2.2.1 h),fun h=>(hf.out.2.2.2.1 h),fun _=>rfl,fun h=>absurd h (by rw [show upd l 3 true 4=l 4 from rfl,hn 4 rfl];exact Bool.false_ne_true),fun h=>absurd h (by rw [show upd l 3 true 5=l 5 from rfl,hn 5 rfl];exact Bool.false_ne_true),fun h=>absurd h (by rw [show upd l 3 true 6=l 6 from rfl,hn 6 rfl];exact Bool.false_ne_true),fun h=>absurd h (by rw [show upd l 3 true 7=l 7 from rfl,hn 7 rfl];exact Bool.false_ne_true),fun h=>absurd h (by rw [show upd l 3 true 8=l 8 from rfl,hn 8 rfl];exact Bool.false_ne_true),fun h=>(hf.out.2.2.2.2.2.2.2.2.2.2.1 h),fun h=>absurd h (by rw [show upd l 3 true 11=l 11 from rfl,hn 11 rfl];exact Bool.false_ne_true)⟩
        · intro l s wx hl hd hn hf0 K hK
          have hf:=Lib.hid hf0
          clear hf0
          have e3:=(hf.out.2.2.2.2.1 (hd 3 rfl))
          have hB:=hf.out.1
          go_simp
          go_at_call 16
          refine (toCall_whole kk ee _).mono ?_
          rintro _ wy ⟨rfl,hE⟩
          refine hK.out (upd s 88 (.agg #[.int .i64 kk,.int .i64 ee])) _ _ (by simp [upd_at,e3] <;> rfl) ⟨bT hf.out.1 hE,fun h=>(hf.out.2.1 h),fun h=>fun h4=>(let ⟨g1,g2,g3,g4,e,R⟩:=(hf.out.2.2.1 h) h4;⟨g1,g2,g3,g4,e,MadeW.belowS R hE⟩),fun h=>(hf.out.2.2.2.1 h),fun h=>(hf.out.2.2.2.2.1 h),fun _=>rfl,fun h=>absurd h (by rw [show upd l 4 true 5=l 5 from rfl,hn 5 rfl];exact Bool.false_ne_true),fun h=>absurd h (by rw [show upd l 4 true 6=l 6 from rfl,hn 6 rfl];exact Bool.false_ne_true),fun h=>absurd h (by rw [show upd l 4 true 7=l 7 from rfl,hn 7 rfl];exact Bool.false_ne_true),fun h=>absurd h (by rw [show upd l 4 true 8=l 8 from rfl,hn 8 rfl];exact Bool.false_ne_true),fun h=>IsBox.below (hf.out.2.2.2.2.2.2.2.2.2.2.1 h) hE,fun h=>absurd h (by rw [show upd l 4 true 11=l 11 from rfl,hn 11 rfl];exact Bool.false_ne_true)⟩
        · intro l s wx hl hd hn hf0 K hK
          have hf:=Lib.hid hf0
          clear hf0
          have hB:=hf.out.1
          have ew:=(hf.out.2.2.2.1 (hd 2 rfl))
          have ek:=(hf.out.2.2.2.2.2.1 (hd 4 rfl))
          obtain ⟨g1,g2,g3,g4,ec,G⟩:=hf.out.2.2.1 (hd 1 rfl) hl
          go_simp
          go_at_call 17
          refine (HI.out _ _ _ _ _ _ _ _ _ (MadeW.seg G) (noneS _ _ _ _ _ _ _ _ _)).mono ?_
          rintro _ wy ⟨⟨v1,v2,v3,v4,rfl,X⟩,hE⟩
          refine hK.out (upd (upd (upd (upd (upd s 1003 (v1)) 1004 (v2)) 1005 (v3)) 1006 (v4)) 89 (.tuple #[.agg (wvals y v1 v2 v3 v4),.int .i64 tn])) _ _ (by simp [upd_at,ec,ek,ew] <;> rfl) ⟨bT hf.out.1 hE,fun h=>(hf.out.2.1 h),fun _ h4=>absurd h4 (by rw [show upd l 5 true 5=true from rfl];decide),fun h=>(hf.out.2.2.2.1 h),fun h=>(hf.out.2.2.2.2.1 h),fun h=>(hf.out.2.2.2.2.2.1 h),fun _=>⟨rfl,WOwn.lo' X hB.size⟩,fun h=>absurd h (by rw [show upd l 5 true 6=l 6 from rfl,hn 6 rfl];exact Bool.false_ne_true),fun h=>absurd h (by rw [show upd l 5 true 7=l 7 from rfl,hn 7 rfl];exact Bool.false_ne_true),fun h=>absurd h (by rw [show upd l 5 true 8=l 8 from rfl,hn 8 rfl];exact Bool.false_ne_true),fun h=>by (have ee:l 10=false:=hn 10 rfl);(have F:=hf.out.2.2.2.2.2.2.2.2.2.2.1 h);rw [ee] at F;rw [show upd l 5 true 10=false from ee];exact F.below hE,fun h=>absurd h (by rw [show upd l 5 true 11=l 11 from rfl,hn 11 rfl];exact Bool.false_ne_true)⟩
        · intro l s wx hl hd hn hf0 K hK
          have hf:=Lib.hid hf0
          clear hf0
          have e5:=(hf.out.2.2.2.2.2.2.1 (hd 5 rfl)).1
          have hB:=hf.out.1
          go_simp
          refine hK.out (upd s 83 (.tuple #[.agg (wvals y (s 1003) (s 1004) (s 1005) (s 1006)),.int .i64 tn])) _ _ (by simp [upd_at,e5] <;> rfl) ⟨hf.out.1,fun h=>(hf.out.2.1 h),fun h=>(hf.out.2.2.1 h),fun h=>(hf.out.2.2.2.1 h),fun h=>(hf.out.2.2.2.2.1 h),fun h=>(hf.out.2.2.2.2.2.1 h),fun h=>(hf.out.2.2.2.2.2.2.1 h),fun _=>rfl,fun h=>absurd h (by rw [show upd l 6 true 7=l 7 from rfl,hn 7 rfl];exact Bool.false_ne_true),fun h=>absurd h (by rw [show upd l 6 true 8=l 8 from rfl,hn 8 rfl];exact Bool.false_ne_true),fun h=>(hf.out.2.2.2.2.2.2.2.2.2.2.1 h),fun h=>absurd h (by rw [show upd l 6 true 11=l 11 from rfl,hn 11 rfl];exact Bool.false_ne_true)⟩
        · intro l s wx hl hd hn hf0 K hK
          have hf:=Lib.hid hf0
          clear hf0
          have e6:=(hf.out.2.2.2.2.2.2.2.1 (hd 6 rfl))
          have hB:=hf.out.1
          go_simp
          refine hK.out (upd s 90 (.agg (wvals y (s 1003) (s 1004) (s 1005) (s 1006)))) _ _ (by simp [upd_at,e6] <;> rfl) ⟨hf.out.1,fun h=>(hf.out.2.1 h),fun h=>(hf.out.2.2.1 h),fun h=>(hf.out.2.2.2.1 h),fun h=>(hf.out.2.2.2.2.1 h),fun h=>(hf.out.2.2.2.2.2.1 h),fun h=>(hf.out.2.2.2.2.2.2.1 h),fun h=>(hf.out.2.2.2.2.2.2.2.1 h),fun _=>rfl,fun h=>(hf.out.2.2.2.2.2.2.2.2.2.1 h),fun h=>(hf.out.2.2.2.2.2.2.2.2.2.2.1 h),fun h=>(hf.out.2.2.2.2.2.2.2.2.2.2.2 h)⟩
        · intro l s wx hl hd hn hf0 K hK
          have hf:=Lib.hid hf0
          clear hf0
          have e6:=(hf.out.2.2.2.2.2.2.2.1 (hd 6 rfl))
          have hB:=hf.out.1
          go_simp
          refine hK.out (upd s 91 (.int .i64 tn)) _ _ (by simp [upd_at,e6] <;> rfl) ⟨hf.out.1,fun h=>(hf.out.2.1 h),fun h=>(hf.out.2.2.1 h),fun h=>(hf.out.2.2.2.1 h),fun h=>(hf.out.2.2.2.2.1 h),fun h=>(hf.out.2.2.2.2.2.1 h),fun h=>(hf.out.2.2.2.2.2.2.1 h),fun h=>(hf.out.2.2.2.2.2.2.2.1 h),fun h=>(hf.out.2.2.2.2.2.2.2.2.1 h),fun _=>rfl,fun h=>(hf.out.2.2.2.2.2.2.2.2.2.2.1 h),fun h=>absurd h (by rw [show upd l 8 true 11=l 11 from rfl,hn 11 rfl];exact Bool.false_ne_true)⟩
        · intro l s wx hl hd hn hf0 K hK
          have hf:=Lib.hid hf0
          clear hf0
          have hB:=hf.out.1
          go_simp
          refine hK.out (upd s 16 (.pointer (some ⟨wx.heap.size,0,none⟩))) _ _ (by simp [upd_at] <;> rfl) ⟨bT hf.out.1 (belowAlloc _ _),fun h=>(hf.out.2.1 h),fun h=>fun h4=>(let ⟨g1,g2,g3,g4,e,R⟩:=(hf.out.2.2.1 h) h4;⟨g1,g2,g3,g4,e,MadeW.belowS R (belowAlloc _ _)⟩),fun h=>(hf.out.2.2.2.1 h),fun h=>(hf.out.2.2.2.2.1 h),fun h=>(hf.out.2.2.2.2.2.1 h),fun h=>(let ⟨e,X⟩:=(hf.out.2.2.2.2.2.2.1 h);⟨e,WOwn.belowS X (belowAlloc _ _)⟩),fun h=>(hf.out.2.2.2.2.2.2.2.1 h),fun h=>(hf.out.2.2.2.2.2.2.2.2.1 h),fun h=>(hf.out.2.2.2.2.2.2.2.2.2.1 h),fun _=>by rw [show upd l 9 true 10=false from hn 10 rfl];exact IsBox.new hB.size,fun h=>(hf.out.2.2.2.2.2.2.2.2.2.2.2 h)⟩
        · intro l s wx hl hd hn hf0 K hK
          have hf:=Lib.hid hf0
          clear hf0
          have e7:=(hf.out.2.2.2.2.2.2.2.2.1 (hd 7 rfl))
          have e5:=(hf.out.2.2.2.2.2.2.1 (hd 5 rfl))
          have hB:=hf.out.1
          have X:=e5.2
          clear e5
          obtain ⟨bb,eb,hlo,zb⟩:=(hf.out.2.2.2.2.2.2.2.2.2.2.1 (hd 9 rfl))
          rw [hl] at zb
          dsimp only [cond] at zb
          obtain ⟨xa,xb,xd,xe,q1,q2,q3,q4,ea1,ea2,ea3,ea4,_⟩:=WOwn.new X
          rw [ea1,ea2,ea3,ea4] at e7
          go_simp
          have zn:hp (setBox wx bb (wvals y (.slice xa y.ch.cells.length q1) (.slice xb y.ch.words.length q2) (.slice xd y.hands.length q3) (.slice xe y.deals.length q4))) bb=some (.cells (wvals y (s 1003) (s 1004) (s 1005) (s 1006)) 38):=by rw [ea1,ea2,ea3,ea4];exact hp_set zb
          refine hK.out (s) _ _ (by simp [upd_at,eb,e7,ea1,ea2,ea3,ea4] <;> rfl) ⟨bBx hB hlo,fun h=>(hf.out.2.1 h),fun _ h4=>absurd ((hd 5 rfl).symm.trans h4) (by decide),fun h=>(hf.out.2.2.2.1 h),fun h=>(hf.out.2.2.2.2.1 h),fun h=>(hf.out.2.2.2.2.2.1 h),fun h=>⟨(hf.out.2.2.2.2.2.2.1 h).1,WOwn.far (hf.out.2.2.2.2.2.2.1 h).2 zb⟩,fun h=>(hf.out.2.2.2.2.2.2.2.1 h),fun h=>(hf.out.2.2.2.2.2.2.2.2.1 h),fun h=>(hf.out.2.2.2.2.2.2.2.2.2.1 h),fun _=>⟨bb,eb,hlo,zn⟩,fun h=>(hf.out.2.2.2.2.2.2.2.2.2.2.2 h)⟩
        · intro l s wx hl hd hn hf0 K hK
          have hf:=Lib.hid hf0
          clear hf0
          have e8:=(hf.out.2.2.2.2.2.2.2.2.2.1 (hd 8 rfl))
          have hB:=hf.out.1
          go_simp
          refine hK.out (upd s 17 (.int .i64 tn)) _ _ (by simp [upd_at,e8] <;> rfl) ⟨hf.out.1,fun h=>(hf.out.2.1 h),fun h=>(hf.out.2.2.1 h),fun h=>(hf.out.2.2.2.1 h),fun h=>(hf.out.2.2.2.2.1 h),fun h=>(hf.out.2.2.2.2.2.1 h),fun h=>(hf.out.2.2.2.2.2.2.1 h),fun h=>(hf.out.2.2.2.2.2.2.2.1 h),fun h=>(hf.out.2.2.2.2.2.2.2.2.1 h),fun h=>(hf.out.2.2.2.2.2.2.2.2.2.1 h),fun h=>(hf.out.2.2.2.2.2.2.2.2.2.2.1 h),fun _=>rfl⟩
      · intro l s wx hl hd hn hf0 K hK
        have hf:=Lib.hid hf0
        clear hf0
        have hB:=hf.out.1
        have z:=hpS z_w3 hB
        go_simp
        refine hK.out (upd s 51 (.agg (wvals x (.slice (some ⟨y1,0,none⟩) x.ch.cells.length x.ch.cells.length) (.slice (some ⟨y2,0,none⟩) x.ch.words.length x.ch.words.length) (.slice (some ⟨y3,0,none⟩) x.hands.length x.hands.length) (.slice (some ⟨y4,0,none⟩) x.deals.length x.deals.length)))) _ _ (by simp [upd_at] <;> rfl) ⟨hf.out.1,fun _=>rfl,fun h=>(hf.out.2.2.1 h),fun h=>(hf.out.2.2.2.1 h),fun h=>absurd h (by rw [show upd l 0 true 3=l 3 from rfl,hn 3 rfl];exact Bool.false_ne_true),fun h=>absurd h (by rw [show upd l 0 true 4=l 4 from rfl,hn 4 rfl];exact Bool.false_ne_true)⟩
      · intro l s wx hl hd hn hf0 K hK
        have hf:=Lib.hid hf0
        clear hf0
        have hB:=hf.out.1
        have z:=hpS z_w hB
        go_simp
        refine hK.out (upd s 52 (.agg (wvals x (.slice a x.ch.cells.length p1) (.slice b x.ch.words.length p2) (.slice d x.hands.length p3) (.slice e x.deals.length p4)))) _ _ (by simp [upd_at] <;> rfl) ⟨hf.out.1,fun h=>(hf.out.2.1 h),fun _=>rfl,fun h=>absurd h (by rw [show upd l 1 true 2=l 2 from rfl,hn 2 rfl];exact Bool.false_ne_true),fun h=>absurd h (by rw [show upd l 1 true 3=l 3 from rfl,hn 3 rfl];exact Bool.false_ne_true),fun h=>absurd h (by rw [show upd l 1 true 4=l 4 from rfl,hn 4 rfl];exact Bool.false_ne_true)⟩
      · intro l s wx hl hd hn hf0 K hK
        have hf:=Lib.hid hf0
        clear hf0
        have e1:=(hf.out.2.2.1 (hd 1 rfl))
        have hB:=hf.out.1
        go_simp
        go_at_call 8
        refine (toWorldB x a b d e p1 p2 p3 p4 _ (((H.out.below (bT hB6 hB))).more (bT hB6 hB).size) m).mono ?_
        rintro _ wy ⟨⟨g1,g2,g3,g4,rfl,G⟩,hE⟩
        refine hK.out (upd s 53 (.agg (wvals x (.slice (some ⟨g1,0,none⟩) x.ch.cells.length x.ch.cells.length) (.slice (some ⟨g2,0,none⟩) x.ch.words.length x.ch.words.length) (.slice (some ⟨g3,0,none⟩) x.hands.length x.hands.length) (.slice (some ⟨g4,0,none⟩) x.deals.length x.deals.length)))) _ _ (by simp [upd_at,e1] <;> rfl) ⟨bT hf.out.1 hE,fun h=>(hf.out.2.1 h),fun h=>(hf.out.2.2.1 h),fun _=>⟨g1,g2,g3,g4,rfl,MadeW.lo' G hB.size⟩,fun h=>absurd h (by rw [show upd l 2 true 3=l 3 from rfl,hn 3 rfl];exact Bool.false_ne_true),fun h=>absurd h (by rw [show upd l 2 true 4=l 4 from rfl,hn 4 rfl];exact Bool.false_ne_true)⟩
      · intro l s wx hl hd hn hf0 K hK
        have hf:=Lib.hid hf0
        clear hf0
        have e0:=(hf.out.2.1 (hd 0 rfl))
        have hB:=hf.out.1
        obtain ⟨g1,g2,g3,g4,e2,G⟩:=(hf.out.2.2.2.1 (hd 2 rfl))
        go_simp
        go_at_call 10
        refine (eqWorld_any x _ _ _ _ _ _ _ _ _ _ _ _ _ _ _ _ _ (X0.segAt hB) (MadeW.seg G) m).mono ?_
        rintro _ wy ⟨rfl,hE⟩
        refine hK.out (upd s 54 (.bool true)) _ _ (by simp [upd_at,e0,e2] <;> rfl) ⟨bT hf.out.1 hE,fun h=>(hf.out.2.1 h),fun h=>(hf.out.2.2.1 h),fun h=>(let ⟨g1,g2,g3,g4,e,R⟩:=(hf.out.2.2.2.1 h);⟨g1,g2,g3,g4,e,MadeW.belowS R hE⟩),fun _=>rfl,fun h=>absurd h (by rw [show upd l 3 true 4=l 4 from rfl,hn 4 rfl];exact Bool.false_ne_true)⟩
      · intro l s wx hl hd hn hf0 K hK
        have hf:=Lib.hid hf0
        clear hf0
        have e3:=(hf.out.2.2.2.2.1 (hd 3 rfl))
        have hB:=hf.out.1
        go_simp
        refine hK.out (upd s 55 (.bool false)) _ _ (by simp [upd_at,e3] <;> rfl) ⟨hf.out.1,fun h=>(hf.out.2.1 h),fun h=>(hf.out.2.2.1 h),fun h=>(hf.out.2.2.2.1 h),fun h=>(hf.out.2.2.2.2.1 h),fun _=>rfl⟩
    · intro l s wx hl hd hn hf0 K hK
      have hf:=Lib.hid hf0
      clear hf0
      have hB:=hf.out.1
      have z:=hpS z_w3 hB
      go_simp
      refine hK.out (upd s 35 (.agg (wvals x (.slice (some ⟨y1,0,none⟩) x.ch.cells.length x.ch.cells.length) (.slice (some ⟨y2,0,none⟩) x.ch.words.length x.ch.words.length) (.slice (some ⟨y3,0,none⟩) x.hands.length x.hands.length) (.slice (some ⟨y4,0,none⟩) x.deals.length x.deals.length)))) _ _ (by simp [upd_at] <;> rfl) ⟨hf.out.1,fun _=>rfl,fun h=>(hf.out.2.2.1 h),fun h=>(hf.out.2.2.2.1 h),fun h=>(hf.out.2.2.2.2.1 h),fun h=>absurd h (by rw [show upd l 0 true 4=l 4 from rfl,hn 4 rfl];exact Bool.false_ne_true),fun h=>absurd h (by rw [show upd l 0 true 5=l 5 from rfl,hn 5 rfl];exact Bool.false_ne_true),fun h=>absurd h (by rw [show upd l 0 true 6=l 6 from rfl,hn 6 rfl];exact Bool.false_ne_true),fun h=>absurd h (by rw [show upd l 0 true 7=l 7 from rfl,hn 7 rfl];exact Bool.false_ne_true),fun h=>(hf.out.2.2.2.2.2.2.2.2.2.1 h),fun h=>absurd h (by rw [show upd l 0 true 10=l 10 from rfl,hn 10 rfl];exact Bool.false_ne_true)⟩
    · intro l s wx hl hd hn hf0 K hK
      have hf:=Lib.hid hf0
      clear hf0
      have hB:=hf.out.1
      go_simp
      refine hK.out (upd s 36 (.int .i64 who)) _ _ (by simp [upd_at] <;> rfl) ⟨hf.out.1,fun h=>(hf.out.2.1 h),fun _=>rfl,fun h=>(hf.out.2.2.2.1 h),fun h=>(hf.out.2.2.2.2.1 h),fun h=>absurd h (by rw [show upd l 1 true 4=l 4 from rfl,hn 4 rfl];exact Bool.false_ne_true),fun h=>absurd h (by rw [show upd l 1 true 5=l 5 from rfl,hn 5 rfl];exact Bool.false_ne_true),fun h=>absurd h (by rw [show upd l 1 true 6=l 6 from rfl,hn 6 rfl];exact Bool.false_ne_true),fun h=>absurd h (by rw [show upd l 1 true 7=l 7 from rfl,hn 7 rfl];exact Bool.false_ne_true),fun h=>(hf.out.2.2.2.2.2.2.2.2.2.1 h),fun h=>absurd h (by rw [show upd l 1 true 10=l 10 from rfl,hn 10 rfl];exact Bool.false_ne_true)⟩
    · intro l s wx hl hd hn hf0 K hK
      have hf:=Lib.hid hf0
      clear hf0
      have hB:=hf.out.1
      have z:=hpS z_wp hB
      have zc0:=(bO z).1 0
      have zc1:=(bO z).1 1
      go_simp
      refine hK.out (upd s 37 (.agg #[.int .i64 kk,.int .i64 ee])) _ _ (by simp [upd_at] <;> rfl) ⟨hf.out.1,fun h=>(hf.out.2.1 h),fun h=>(hf.out.2.2.1 h),fun _=>rfl,fun h=>absurd h (by rw [show upd l 2 true 3=l 3 from rfl,hn 3 rfl];exact Bool.false_ne_true),fun h=>absurd h (by rw [show upd l 2 true 4=l 4 from rfl,hn 4 rfl];exact Bool.false_ne_true),fun h=>absurd h (by rw [show upd l 2 true 5=l 5 from rfl,hn 5 rfl];exact Bool.false_ne_true),fun h=>absurd h (by rw [show upd l 2 true 6=l 6 from rfl,hn 6 rfl];exact Bool.false_ne_true),fun h=>absurd h (by rw [show upd l 2 true 7=l 7 from rfl,hn 7 rfl];exact Bool.false_ne_true),fun h=>(hf.out.2.2.2.2.2.2.2.2.2.1 h),fun h=>absurd h (by rw [show upd l 2 true 10=l 10 from rfl,hn 10 rfl];exact Bool.false_ne_true)⟩
    · intro l s wx hl hd hn hf0 K hK
      have hf:=Lib.hid hf0
      clear hf0
      have e2:=(hf.out.2.2.2.1 (hd 2 rfl))
      have hB:=hf.out.1
      go_simp
      go_at_call 16
      refine (toCall_whole kk ee _).mono ?_
      rintro _ wy ⟨rfl,hE⟩
      refine hK.out (upd s 38 (.agg #[.int .i64 kk,.int .i64 ee])) _ _ (by simp [upd_at,e2] <;> rfl) ⟨bT hf.out.1 hE,fun h=>(hf.out.2.1 h),fun h=>(hf.out.2.2.1 h),fun h=>(hf.out.2.2.2.1 h),fun _=>rfl,fun h=>absurd h (by rw [show upd l 3 true 4=l 4 from rfl,hn 4 rfl];exact Bool.false_ne_true),fun h=>absurd h (by rw [show upd l 3 true 5=l 5 from rfl,hn 5 rfl];exact Bool.false_ne_true),fun h=>absurd h (by rw [show upd l 3 true 6=l 6 from rfl,hn 6 rfl];exact Bool.false_ne_true),fun h=>absurd h (by rw [show upd l 3 true 7=l 7 from rfl,hn 7 rfl];exact Bool.false_ne_true),fun h=>IsBox.below (hf.out.2.2.2.2.2.2.2.2.2.1 h) hE,fun h=>absurd h (by rw [show upd l 3 true 10=l 10 from rfl,hn 10 rfl];exact Bool.false_ne_true)⟩
    · intro l s wx hl hd hn hf0 K hK
      have hf:=Lib.hid hf0
      clear hf0
      have hB:=hf.out.1
      have ew:=(hf.out.2.2.1 (hd 1 rfl))
      have ek:=(hf.out.2.2.2.2.1 (hd 3 rfl))
      have ec:=(hf.out.2.1 (hd 0 rfl))
      go_simp
      go_at_call 17
      refine (HI.out _ _ _ _ _ _ _ _ _ (X0.segAt hB) (noneS _ _ _ _ _ _ _ _ _)).mono ?_
      rintro _ wy ⟨⟨v1,v2,v3,v4,rfl,X⟩,hE⟩
      refine hK.out (upd (upd (upd (upd (upd s 1003 (v1)) 1004 (v2)) 1005 (v3)) 1006 (v4)) 39 (.tuple #[.agg (wvals y v1 v2 v3 v4),.int .i64 tn])) _ _ (by simp [upd_at,ec,ek,ew] <;> rfl) ⟨bT hf.out.1 hE,fun h=>(hf.out.2.1 h),fun h=>(hf.out.2.2.1 h),fun h=>(hf.out.2.2.2.1 h),fun h=>(hf.out.2.2.2.2.1 h),fun _=>⟨rfl,WOwn.lo' X hB.size⟩,fun h=>absurd h (by rw [show upd l 4 true 5=l 5 from rfl,hn 5 rfl];exact Bool.false_ne_true),fun h=>absurd h (by rw [show upd l 4 true 6=l 6 from rfl,hn 6 rfl];exact Bool.false_ne_true),fun h=>absurd h (by rw [show upd l 4 true 7=l 7 from rfl,hn 7 rfl];exact Bool.false_ne_true),fun h=>by (have ee:l 9=false:=hn 9 rfl);(have F:=hf.out.2.2.2.2.2.2.2.2.2.1 h);rw [ee] at F;rw [show upd l 4 true 9=false from ee];exact F.below hE,fun h=>absurd h (by rw [show upd l 4 true 10=l 10 from rfl,hn 10 rfl];exact Bool.false_ne_true)⟩
    · intro l s wx hl hd hn hf0 K hK
      have hf:=Lib.hid hf0
      clear hf0
      have e4:=(hf.out.2.2.2.2.2.1 (hd 4 rfl)).1
      have hB:=hf.out.1
      go_simp
      refine hK.out (upd s 34 (.tuple #[.agg (wvals y (s 1003) (s 1004) (s 1005) (s 1006)),.int .i64 tn])) _ _ (by simp [upd_at,e4] <;> rfl) ⟨hf.out.1,fun h=>(hf.out.2.1 h),fun h=>(hf.out.2.2.1 h),fun h=>(hf.out.2.2.2.1 h),fun h=>(hf.out.2.2.2.2.1 h),fun h=>(hf.out.2.2.2.2.2.1 h),fun _=>rfl,fun h=>absurd h (by rw [show upd l 5 true 6=l 6 from rfl,hn 6 rfl];exact Bool.false_ne_true),fun h=>absurd h (by rw [show upd l 5 true 7=l 7 from rfl,hn 7 rfl];exact Bool.false_ne_true),fun h=>(hf.out.2.2.2.2.2.2.2.2.2.1 h),fun h=>absurd h (by rw [show upd l 5 true 10=l 10 from rfl,hn 10 rfl];exact Bool.false_ne_true)⟩
    · intro l s wx hl hd hn hf0 K hK
      have hf:=Lib.hid hf0
      clear hf0
      have e5:=(hf.out.2.2.2.2.2.2.1 (hd 5 rfl))
      have hB:=hf.out.1
      go_simp
      refine hK.out (upd s 40 (.agg (wvals y (s 1003) (s 1004) (s 1005) (s 1006)))) _ _ (by simp [upd_at,e5] <;> rfl) ⟨hf.out.1,fun h=>(hf.out.2.1 h),fun h=>(hf.out.2.2.1 h),fun h=>(hf.out.2.2.2.1 h),fun h=>(hf.out.2.2.2.2.1 h),fun h=>(hf.out.2.2.2.2.2.1 h),fun h=>(hf.out.2.2.2.2.2.2.1 h),fun _=>rfl,fun h=>(hf.out.2.2.2.2.2.2.2.2.1 h),fun h=>(hf.out.2.2.2.2.2.2.2.2.2.1 h),fun h=>(hf.out.2.2.2.2.2.2.2.2.2.2 h)⟩
    · intro l s wx hl hd hn hf0 K hK
      have hf:=Lib.hid hf0
      clear hf0
      have e5:=(hf.out.2.2.2.2.2.2.1 (hd 5 rfl))
      have hB:=hf.out.1
      go_simp
      refine hK.out (upd s 41 (.int .i64 tn)) _ _ (by simp [upd_at,e5] <;> rfl) ⟨hf.out.1,fun h=>(hf.out.2.1 h),fun h=>(hf.out.2.2.1 h),fun h=>(hf.out.2.2.2.1 h),fun h=>(hf.out.2.2.2.2.1 h),fun h=>(hf.out.2.2.2.2.2.1 h),fun h=>(hf.out.2.2.2.2.2.2.1 h),fun h=>(hf.out.2.2.2.2.2.2.2.1 h),fun _=>rfl,fun h=>(hf.out.2.2.2.2.2.2.2.2.2.1 h),fun h=>absurd h (by rw [show upd l 7 true 10=l 10 from rfl,hn 10 rfl];exact Bool.false_ne_true)⟩
    · intro l s wx hl hd hn hf0 K hK
      have hf:=Lib.hid hf0
      clear hf0
      have hB:=hf.out.1
      go_simp
      refine hK.out (upd s 11 (.pointer (some ⟨wx.heap.size,0,none⟩))) _ _ (by simp [upd_at] <;> rfl) ⟨bT hf.out.1 (belowAlloc _ _),fun h=>(hf.out.2.1 h),fun h=>(hf.out.2.2.1 h),fun h=>(hf.out.2.2.2.1 h),fun h=>(hf.out.2.2.2.2.1 h),fun h=>(let ⟨e,X⟩:=(hf.out.2.2.2.2.2.1 h);⟨e,WOwn.belowS X (belowAlloc _ _)⟩),fun h=>(hf.out.2.2.2.2.2.2.1 h),fun h=>(hf.out.2.2.2.2.2.2.2.1 h),fun h=>(hf.out.2.2.2.2.2.2.2.2.1 h),fun _=>by rw [show upd l 8 true 9=false from hn 9 rfl];exact IsBox.new hB.size,fun h=>(hf.out.2.2.2.2.2.2.2.2.2.2 h)⟩
    · intro l s wx hl hd hn hf0 K hK
      have hf:=Lib.hid hf0
      clear hf0
      have e6:=(hf.out.2.2.2.2.2.2.2.1 (hd 6 rfl))
      have e4:=(hf.out.2.2.2.2.2.1 (hd 4 rfl))
      have hB:=hf.out.1
      have X:=e4.2
      clear e4
      obtain ⟨bb,eb,hlo,zb⟩:=(hf.out.2.2.2.2.2.2.2.2.2.1 (hd 8 rfl))
      rw [hl] at zb
      dsimp only [cond] at zb
      obtain ⟨xa,xb,xd,xe,q1,q2,q3,q4,ea1,ea2,ea3,ea4,_⟩:=WOwn.new X
      rw [ea1,ea2,ea3,ea4] at e6
      go_simp
      have zn:hp (setBox wx bb (wvals y (.slice xa y.ch.cells.length q1) (.slice xb y.ch.words.length q2) (.slice xd y.hands.length q3) (.slice xe y.deals.length q4))) bb=some (.cells (wvals y (s 1003) (s 1004) (s 1005) (s 1006)) 38):=by rw [ea1,ea2,ea3,ea4];exact hp_set zb
      refine hK.out (s) _ _ (by simp [upd_at,eb,e6,ea1,ea2,ea3,ea4] <;> rfl) ⟨bBx hB hlo,fun h=>(hf.out.2.1 h),fun h=>(hf.out.2.2.1 h),fun h=>(hf.out.2.2.2.1 h),fun h=>(hf.out.2.2.2.2.1 h),fun h=>⟨(hf.out.2.2.2.2.2.1 h).1,WOwn.far (hf.out.2.2.2.2.2.1 h).2 zb⟩,fun h=>(hf.out.2.2.2.2.2.2.1 h),fun h=>(hf.out.2.2.2.2.2.2.2.1 h),fun h=>(hf.out.2.2.2.2.2.2.2.2.1 h),fun _=>⟨bb,eb,hlo,zn⟩,fun h=>(hf.out.2.2.2.2.2.2.2.2.2.2 h)⟩
    · intro l s wx hl hd hn hf0 K hK
      have hf:=Lib.hid hf0
      clear hf0
      have e7:=(hf.out.2.2.2.2.2.2.2.2.1 (hd 7 rfl))
      have hB:=hf.out.1
      go_simp
      refine hK.out (upd s 12 (.int .i64 tn)) _ _ (by simp [upd_at,e7] <;> rfl) ⟨hf.out.1,fun h=>(hf.out.2.1 h),fun h=>(hf.out.2.2.1 h),fun h=>(hf.out.2.2.2.1 h),fun h=>(hf.out.2.2.2.2.1 h),fun h=>(hf.out.2.2.2.2.2.1 h),fun h=>(hf.out.2.2.2.2.2.2.1 h),fun h=>(hf.out.2.2.2.2.2.2.2.1 h),fun h=>(hf.out.2.2.2.2.2.2.2.2.1 h),fun h=>(hf.out.2.2.2.2.2.2.2.2.2.1 h),fun _=>rfl⟩
  · intro l s wx hl hd hn hf0 K hK
    have hf:=Lib.hid hf0
    clear hf0
    have hB:=hf.out.1
    have z:=hpS z_w hB
    go_simp
    refine hK.out (upd s 24 (.agg (wvals x (.slice a x.ch.cells.length p1) (.slice b x.ch.words.length p2) (.slice d x.hands.length p3) (.slice e x.deals.length p4)))) _ _ (by simp [upd_at] <;> rfl) ⟨hf.out.1,fun _=>rfl,fun h=>absurd h (by rw [show upd l 0 true 1=l 1 from rfl,hn 1 rfl];exact Bool.false_ne_true),fun h=>(hf.out.2.2.2.1 h),fun h=>(hf.out.2.2.2.2.1 h),fun h=>(hf.out.2.2.2.2.2.1 h),fun h=>absurd h (by rw [show upd l 0 true 5=l 5 from rfl,hn 5 rfl];exact Bool.false_ne_true),fun h=>absurd h (by rw [show upd l 0 true 6=l 6 from rfl,hn 6 rfl];exact Bool.false_ne_true),fun h=>absurd h (by rw [show upd l 0 true 7=l 7 from rfl,hn 7 rfl];exact Bool.false_ne_true),fun h=>absurd h (by rw [show upd l 0 true 8=l 8 from rfl,hn 8 rfl];exact Bool.false_ne_true),fun h=>(hf.out.2.2.2.2.2.2.2.2.2.2.1 h),fun h=>absurd h (by rw [show upd l 0 true 11=l 11 from rfl,hn 11 rfl];exact Bool.false_ne_true)⟩
  · intro l s wx hl hd hn hf0 K hK
    have hf:=Lib.hid hf0
    clear hf0
    have e0:=(hf.out.2.1 (hd 0 rfl))
    have hB:=hf.out.1
    go_simp
    go_at_call 8
    refine (toWorldB x a b d e p1 p2 p3 p4 _ (((H.out.below (bT hB1 hB))).more (bT hB1 hB).size) m).mono ?_
    rintro _ wy ⟨⟨g1,g2,g3,g4,rfl,G⟩,hE⟩
    refine hK.out (upd s 25 (.agg (wvals x (.slice (some ⟨g1,0,none⟩) x.ch.cells.length x.ch.cells.length) (.slice (some ⟨g2,0,none⟩) x.ch.words.length x.ch.words.length) (.slice (some ⟨g3,0,none⟩) x.hands.length x.hands.length) (.slice (some ⟨g4,0,none⟩) x.deals.length x.deals.length)))) _ _ (by simp [upd_at,e0] <;> rfl) ⟨bT hf.out.1 hE,fun h=>(hf.out.2.1 h),fun _ _=>⟨g1,g2,g3,g4,rfl,MadeW.lo' G hB.size⟩,fun h=>(hf.out.2.2.2.1 h),fun h=>(hf.out.2.2.2.2.1 h),fun h=>(hf.out.2.2.2.2.2.1 h),fun h=>absurd h (by rw [show upd l 1 true 5=l 5 from rfl,hn 5 rfl];exact Bool.false_ne_true),fun h=>absurd h (by rw [show upd l 1 true 6=l 6 from rfl,hn 6 rfl];exact Bool.false_ne_true),fun h=>absurd h (by rw [show upd l 1 true 7=l 7 from rfl,hn 7 rfl];exact Bool.false_ne_true),fun h=>absurd h (by rw [show upd l 1 true 8=l 8 from rfl,hn 8 rfl];exact Bool.false_ne_true),fun h=>IsBox.below (hf.out.2.2.2.2.2.2.2.2.2.2.1 h) hE,fun h=>absurd h (by rw [show upd l 1 true 11=l 11 from rfl,hn 11 rfl];exact Bool.false_ne_true)⟩
  · intro l s wx hl hd hn hf0 K hK
    have hf:=Lib.hid hf0
    clear hf0
    have hB:=hf.out.1
    go_simp
    refine hK.out (upd s 26 (.int .i64 who)) _ _ (by simp [upd_at] <;> rfl) ⟨hf.out.1,fun h=>(hf.out.2.1 h),fun h=>(hf.out.2.2.1 h),fun _=>rfl,fun h=>(hf.out.2.2.2.2.1 h),fun h=>(hf.out.2.2.2.2.2.1 h),fun h=>absurd h (by rw [show upd l 2 true 5=l 5 from rfl,hn 5 rfl];exact Bool.false_ne_true),fun h=>absurd h (by rw [show upd l 2 true 6=l 6 from rfl,hn 6 rfl];exact Bool.false_ne_true),fun h=>absurd h (by rw [show upd l 2 true 7=l 7 from rfl,hn 7 rfl];exact Bool.false_ne_true),fun h=>absurd h (by rw [show upd l 2 true 8=l 8 from rfl,hn 8 rfl];exact Bool.false_ne_true),fun h=>(hf.out.2.2.2.2.2.2.2.2.2.2.1 h),fun h=>absurd h (by rw [show upd l 2 true 11=l 11 from rfl,hn 11 rfl];exact Bool.false_ne_true)⟩
  · intro l s wx hl hd hn hf0 K hK
    have hf:=Lib.hid hf0
    clear hf0
    have hB:=hf.out.1
    have z:=hpS z_wp hB
    have zc0:=(bO z).1 0
    have zc1:=(bO z).1 1
    go_simp
    refine hK.out (upd s 27 (.agg #[.int .i64 kk,.int .i64 ee])) _ _ (by simp [upd_at] <;> rfl) ⟨hf.out.1,fun h=>(hf.out.2.1 h),fun h=>(hf.out.2.2.1 h),fun h=>(hf.out.2.2.2.1 h),fun _=>rfl,fun h=>absurd h (by rw [show upd l 3 true 4=l 4 from rfl,hn 4 rfl];exact Bool.false_ne_true),fun h=>absurd h (by rw [show upd l 3 true 5=l 5 from rfl,hn 5 rfl];exact Bool.false_ne_true),fun h=>absurd h (by rw [show upd l 3 true 6=l 6 from rfl,hn 6 rfl];exact Bool.false_ne_true),fun h=>absurd h (by rw [show upd l 3 true 7=l 7 from rfl,hn 7 rfl];exact Bool.false_ne_true),fun h=>absurd h (by rw [show upd l 3 true 8=l 8 from rfl,hn 8 rfl];exact Bool.false_ne_true),fun h=>(hf.out.2.2.2.2.2.2.2.2.2.2.1 h),fun h=>absurd h (by rw [show upd l 3 true 11=l 11 from rfl,hn 11 rfl];exact Bool.false_ne_true)⟩
  · intro l s wx hl hd hn hf0 K hK
    have hf:=Lib.hid hf0
    clear hf0
    have e3:=(hf.out.2.2.2.2.1 (hd 3 rfl))
    have hB:=hf.out.1
    go_simp
    go_at_call 16
    refine (toCall_whole kk ee _).mono ?_
    rintro _ wy ⟨rfl,hE⟩
    refine hK.out (upd s 28 (.agg #[.int .i64 kk,.int .i64 ee])) _ _ (by simp [upd_at,e3] <;> rfl) ⟨bT hf.out.1 hE,fun h=>(hf.out.2.1 h),fun h=>fun h4=>(let ⟨g1,g2,g3,g4,e,R⟩:=(hf.out.2.2.1 h) h4;⟨g1,g2,g3,g4,e,MadeW.belowS R hE⟩),fun h=>(hf.out.2.2.2.1 h),fun h=>(hf.out.2.2.2.2.1 h),fun _=>rfl,fun h=>absurd h (by rw [show upd l 4 true 5=l 5 from rfl,hn 5 rfl];exact Bool.false_ne_true),fun h=>absurd h (by rw [show upd l 4 true 6=l 6 from rfl,hn 6 rfl];exact Bool.false_ne_true),fun h=>absurd h (by rw [show upd l 4 true 7=l 7 from rfl,hn 7 rfl];exact Bool.false_ne_true),fun h=>absurd h (by rw [show upd l 4 true 8=l 8 from rfl,hn 8 rfl];exact Bool.false_ne_true),fun h=>IsBox.below (hf.out.2.2.2.2.2.2.2.2.2.2.1 h) hE,fun h=>absurd h (by rw [show upd l 4 true 11=l 11 from rfl,hn 11 rfl];exact Bool.false_ne_true)⟩
  · intro l s wx hl hd hn hf0 K hK
    have hf:=Lib.hid hf0
    clear hf0
    have hB:=hf.out.1
    have ew:=(hf.out.2.2.2.1 (hd 2 rfl))
    have ek:=(hf.out.2.2.2.2.2.1 (hd 4 rfl))
    obtain ⟨g1,g2,g3,g4,ec,G⟩:=hf.out.2.2.1 (hd 1 rfl) hl
    go_simp
    go_at_call 15
    refine (HS.out _ _ _ _ _ _ _ _ _ (MadeW.seg G) (noneS _ _ _ _ _ _ _ _ _)).mono ?_
    rintro _ wy ⟨⟨v1,v2,v3,v4,rfl,X⟩,hE⟩
    refine hK.out (upd (upd (upd (upd (upd s 1003 (v1)) 1004 (v2)) 1005 (v3)) 1006 (v4)) 29 (.tuple #[.agg (wvals y v1 v2 v3 v4),.int .i64 tn])) _ _ (by simp [upd_at,ec,ek,ew] <;> rfl) ⟨bT hf.out.1 hE,fun h=>(hf.out.2.1 h),fun _ h4=>absurd h4 (by rw [show upd l 5 true 5=true from rfl];decide),fun h=>(hf.out.2.2.2.1 h),fun h=>(hf.out.2.2.2.2.1 h),fun h=>(hf.out.2.2.2.2.2.1 h),fun _=>⟨rfl,WOwn.lo' X hB.size⟩,fun h=>absurd h (by rw [show upd l 5 true 6=l 6 from rfl,hn 6 rfl];exact Bool.false_ne_true),fun h=>absurd h (by rw [show upd l 5 true 7=l 7 from rfl,hn 7 rfl];exact Bool.false_ne_true),fun h=>absurd h (by rw [show upd l 5 true 8=l 8 from rfl,hn 8 rfl];exact Bool.false_ne_true),fun h=>by (have ee:l 10=false:=hn 10 rfl);(have F:=hf.out.2.2.2.2.2.2.2.2.2.2.1 h);rw [ee] at F;rw [show upd l 5 true 10=false from ee];exact F.below hE,fun h=>absurd h (by rw [show upd l 5 true 11=l 11 from rfl,hn 11 rfl];exact Bool.false_ne_true)⟩
  · intro l s wx hl hd hn hf0 K hK
    have hf:=Lib.hid hf0
    clear hf0
    have e5:=(hf.out.2.2.2.2.2.2.1 (hd 5 rfl)).1
    have hB:=hf.out.1
    go_simp
    refine hK.out (upd s 23 (.tuple #[.agg (wvals y (s 1003) (s 1004) (s 1005) (s 1006)),.int .i64 tn])) _ _ (by simp [upd_at,e5] <;> rfl) ⟨hf.out.1,fun h=>(hf.out.2.1 h),fun h=>(hf.out.2.2.1 h),fun h=>(hf.out.2.2.2.1 h),fun h=>(hf.out.2.2.2.2.1 h),fun h=>(hf.out.2.2.2.2.2.1 h),fun h=>(hf.out.2.2.2.2.2.2.1 h),fun _=>rfl,fun h=>absurd h (by rw [show upd l 6 true 7=l 7 from rfl,hn 7 rfl];exact Bool.false_ne_true),fun h=>absurd h (by rw [show upd l 6 true 8=l 8 from rfl,hn 8 rfl];exact Bool.false_ne_true),fun h=>(hf.out.2.2.2.2.2.2.2.2.2.2.1 h),fun h=>absurd h (by rw [show upd l 6 true 11=l 11 from rfl,hn 11 rfl];exact Bool.false_ne_true)⟩
  · intro l s wx hl hd hn hf0 K hK
    have hf:=Lib.hid hf0
    clear hf0
    have e6:=(hf.out.2.2.2.2.2.2.2.1 (hd 6 rfl))
    have hB:=hf.out.1
    go_simp
    refine hK.out (upd s 30 (.agg (wvals y (s 1003) (s 1004) (s 1005) (s 1006)))) _ _ (by simp [upd_at,e6] <;> rfl) ⟨hf.out.1,fun h=>(hf.out.2.1 h),fun h=>(hf.out.2.2.1 h),fun h=>(hf.out.2.2.2.1 h),fun h=>(hf.out.2.2.2.2.1 h),fun h=>(hf.out.2.2.2.2.2.1 h),fun h=>(hf.out.2.2.2.2.2.2.1 h),fun h=>(hf.out.2.2.2.2.2.2.2.1 h),fun _=>rfl,fun h=>(hf.out.2.2.2.2.2.2.2.2.2.1 h),fun h=>(hf.out.2.2.2.2.2.2.2.2.2.2.1 h),fun h=>(hf.out.2.2.2.2.2.2.2.2.2.2.2 h)⟩
  · intro l s wx hl hd hn hf0 K hK
    have hf:=Lib.hid hf0
    clear hf0
    have e6:=(hf.out.2.2.2.2.2.2.2.1 (hd 6 rfl))
    have hB:=hf.out.1
    go_simp
    refine hK.out (upd s 31 (.int .i64 tn)) _ _ (by simp [upd_at,e6] <;> rfl) ⟨hf.out.1,fun h=>(hf.out.2.1 h),fun h=>(hf.out.2.2.1 h),fun h=>(hf.out.2.2.2.1 h),fun h=>(hf.out.2.2.2.2.1 h),fun h=>(hf.out.2.2.2.2.2.1 h),fun h=>(hf.out.2.2.2.2.2.2.1 h),fun h=>(hf.out.2.2.2.2.2.2.2.1 h),fun h=>(hf.out.2.2.2.2.2.2.2.2.1 h),fun _=>rfl,fun h=>(hf.out.2.2.2.2.2.2.2.2.2.2.1 h),fun h=>absurd h (by rw [show upd l 8 true 11=l 11 from rfl,hn 11 rfl];exact Bool.false_ne_true)⟩
  · intro l s wx hl hd hn hf0 K hK
    have hf:=Lib.hid hf0
    clear hf0
    have hB:=hf.out.1
    go_simp
    refine hK.out (upd s 8 (.pointer (some ⟨wx.heap.size,0,none⟩))) _ _ (by simp [upd_at] <;> rfl) ⟨bT hf.out.1 (belowAlloc _ _),fun h=>(hf.out.2.1 h),fun h=>fun h4=>(let ⟨g1,g2,g3,g4,e,R⟩:=(hf.out.2.2.1 h) h4;⟨g1,g2,g3,g4,e,MadeW.belowS R (belowAlloc _ _)⟩),fun h=>(hf.out.2.2.2.1 h),fun h=>(hf.out.2.2.2.2.1 h),fun h=>(hf.out.2.2.2.2.2.1 h),fun h=>(let ⟨e,X⟩:=(hf.out.2.2.2.2.2.2.1 h);⟨e,WOwn.belowS X (belowAlloc _ _)⟩),fun h=>(hf.out.2.2.2.2.2.2.2.1 h),fun h=>(hf.out.2.2.2.2.2.2.2.2.1 h),fun h=>(hf.out.2.2.2.2.2.2.2.2.2.1 h),fun _=>by rw [show upd l 9 true 10=false from hn 10 rfl];exact IsBox.new hB.size,fun h=>(hf.out.2.2.2.2.2.2.2.2.2.2.2 h)⟩
  · intro l s wx hl hd hn hf0 K hK
    have hf:=Lib.hid hf0
    clear hf0
    have e7:=(hf.out.2.2.2.2.2.2.2.2.1 (hd 7 rfl))
    have e5:=(hf.out.2.2.2.2.2.2.1 (hd 5 rfl))
    have hB:=hf.out.1
    have X:=e5.2
    clear e5
    obtain ⟨bb,eb,hlo,zb⟩:=(hf.out.2.2.2.2.2.2.2.2.2.2.1 (hd 9 rfl))
    rw [hl] at zb
    dsimp only [cond] at zb
    obtain ⟨xa,xb,xd,xe,q1,q2,q3,q4,ea1,ea2,ea3,ea4,_⟩:=WOwn.new X
    rw [ea1,ea2,ea3,ea4] at e7
    go_simp
    have zn:hp (setBox wx bb (wvals y (.slice xa y.ch.cells.length q1) (.slice xb y.ch.words.length q2) (.slice xd y.hands.length q3) (.slice xe y.deals.length q4))) bb=some (.cells (wvals y (s 1003) (s 1004) (s 1005) (s 1006)) 38):=by rw [ea1,ea2,ea3,ea4];exact hp_set zb
    refine hK.out (s) _ _ (by simp [upd_at,eb,e7,ea1,ea2,ea3,ea4] <;> rfl) ⟨bBx hB hlo,fun h=>(hf.out.2.1 h),fun _ h4=>absurd ((hd 5 rfl).symm.trans h4) (by decide),fun h=>(hf.out.2.2.2.1 h),fun h=>(hf.out.2.2.2.2.1 h),fun h=>(hf.out.2.2.2.2.2.1 h),fun h=>⟨(hf.out.2.2.2.2.2.2.1 h).1,WOwn.far (hf.out.2.2.2.2.2.2.1 h).2 zb⟩,fun h=>(hf.out.2.2.2.2.2.2.2.1 h),fun h=>(hf.out.2.2.2.2.2.2.2.2.1 h),fun h=>(hf.out.2.2.2.2.2.2.2.2.2.1 h),fun _=>⟨bb,eb,hlo,zn⟩,fun h=>(hf.out.2.2.2.2.2.2.2.2.2.2.2 h)⟩
  · intro l s wx hl hd hn hf0 K hK
    have hf:=Lib.hid hf0
    clear hf0
    have e8:=(hf.out.2.2.2.2.2.2.2.2.2.1 (hd 8 rfl))
    have hB:=hf.out.1
    go_simp
    refine hK.out (upd s 9 (.int .i64 tn)) _ _ (by simp [upd_at,e8] <;> rfl) ⟨hf.out.1,fun h=>(hf.out.2.1 h),fun h=>(hf.out.2.2.1 h),fun h=>(hf.out.2.2.2.1 h),fun h=>(hf.out.2.2.2.2.1 h),fun h=>(hf.out.2.2.2.2.2.1 h),fun h=>(hf.out.2.2.2.2.2.2.1 h),fun h=>(hf.out.2.2.2.2.2.2.2.1 h),fun h=>(hf.out.2.2.2.2.2.2.2.2.1 h),fun h=>(hf.out.2.2.2.2.2.2.2.2.2.1 h),fun h=>(hf.out.2.2.2.2.2.2.2.2.2.2.1 h),fun _=>rfl⟩
end Go.Proofs.Ytgpdocmclkpknaa
