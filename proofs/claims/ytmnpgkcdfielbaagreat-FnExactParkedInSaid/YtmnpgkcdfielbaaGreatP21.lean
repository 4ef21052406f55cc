/-
  Worlds whose lists lie in a range of blocks of the call's own; the laws' helpers that write numbers into them and look for them; lists of at most 1048576 elements.
  The laws' helpers that write numbers into a world of the call's own and look for them; lists of at most 1048576 elements.
  Worlds of the program and of the laws, loaded and stored whole; no condition.
  The program's world of its own: a copy behind a pointer; the lists lie in memory and hold at most 1048576 elements.
  Asking, of the reference model; lists lie in memory and hold at most 2 ^ 40 elements.
  Asking who can be asked, of the reference model; lists lie in memory and hold at most 2 ^ 40 elements.
-/
import Derived.Test.YtmnpgkcdfielbaaGreatP17
import Derived.Test.YtmnpgkcdfielbaaGreatP20
import Derived.Test.YtmnpgkcdfielbaaGreatP05
import Derived.Test.YtmnpgkcdfielbaaGreatP18
import Derived.Test.YtmnpgkcdfielbaaGreatP08
set_option linter.unusedSimpArgs false
set_option linter.unusedVariables false
namespace Go.Proofs.YtmnpgkcdfielbaaGreat
open Go.RowKit
set_option linter.unusedSimpArgs false
/-- Of what was there the blocks from lo to below hi alone may have turned. -/
def OnlR (lo hi:Nat) (w w':World):Prop:=w'.os=w.os∧w'.tape=w.tape∧w'.output=w.output∧w.heap.size≤w'.heap.size∧∀ i,i<w.heap.size→(i<lo∨hi≤i)→w'.heap[i]?=w.heap[i]?
theorem OnlR.below {lo hi:Nat} {w W W':World} {B:Nat} (h:Below B w W) (k:OnlR lo hi W W') (hB:B≤lo) (hs:B≤W.heap.size):Below B w W':=⟨k.1.trans h.os,k.2.1.trans h.tape,k.2.2.1.trans h.output,Nat.le_trans h.size k.2.2.2.1,fun i hi=>(k.2.2.2.2 i (Nat.lt_of_lt_of_le hi hs) (.inl (Nat.lt_of_lt_of_le hi hB))).trans (h.block i hi)⟩
theorem OnlR.cell {lo hi:Nat} {w w':World} (k:OnlR lo hi w w') {i:Nat} (h:i<w.heap.size) (hr:i<lo∨hi≤i) (o:Nat):w'.cell? ⟨i,o,none⟩=w.cell? ⟨i,o,none⟩:=World.cell?_of_block (k.2.2.2.2 i h hr)
theorem OnlR.frozen {lo hi:Nat} {w w':World} (k:OnlR lo hi w w') {i:Nat} (h:i<w.heap.size) (hr:i<lo∨hi≤i) (o:Nat):w'.frozen? ⟨i,o,none⟩=w.frozen? ⟨i,o,none⟩:=by
  unfold World.frozen?
  rw [k.2.2.2.2 i h hr]
theorem OnlR.trans {lo hi:Nat} {w W w':World} (h:OnlR lo hi w W) (k:OnlR lo hi W w'):OnlR lo hi w w':=⟨k.1.trans h.1,k.2.1.trans h.2.1,k.2.2.1.trans h.2.2.1,Nat.le_trans h.2.2.2.1 k.2.2.2.1,fun i hi hr=>(k.2.2.2.2 i (Nat.lt_of_lt_of_le hi h.2.2.2.1) hr).trans (h.2.2.2.2 i hi hr)⟩
theorem OnlR.of_below {lo hi:Nat} {w w':World} (h:Below w.heap.size w w'):OnlR lo hi w w':=⟨h.os,h.tape,h.output,h.size,fun i hi _=>h.block i hi⟩
theorem OnlR.of_grown {lo hi:Nat} {w w':World} {v:Value} (h:w.grownBy w' v.ownBlock) (hr:∀ i,v.ownBlock=some i→lo≤i∧i<hi):OnlR lo hi w w':=⟨h.os,h.tape,h.output,h.size,fun i hi hn=>h.block i hi fun e=>by have:=hr i e.symm;omega⟩
theorem OnlR.of_onl {lo hi:Nat} {w w':World} {v v':Value} (h:Onl v.ownBlock v'.ownBlock w w') (hr:∀ i,v.ownBlock=some i→lo≤i∧i<hi) (hr':∀ i,v'.ownBlock=some i→lo≤i∧i<hi):OnlR lo hi w w':=⟨h.1,h.2.1,h.2.2.1,h.2.2.2.1,fun i hi hn=>h.2.2.2.2 i hi (fun e=>by have:=hr i e.symm;omega) (fun e=>by have:=hr' i e.symm;omega)⟩
/-- Of what was there the blocks of which P speaks alone may have turned. -/
def OnlP (P:Nat→Prop) (w w':World):Prop:=w'.os=w.os∧w'.tape=w.tape∧w'.output=w.output∧w.heap.size≤w'.heap.size∧∀ i,i<w.heap.size→¬ P i→w'.heap[i]?=w.heap[i]?
theorem OnlP.cell {P:Nat→Prop} {w w':World} (k:OnlP P w w') {i:Nat} (h:i<w.heap.size) (hr:¬ P i) (o:Nat):w'.cell? ⟨i,o,none⟩=w.cell? ⟨i,o,none⟩:=World.cell?_of_block (k.2.2.2.2 i h hr)
theorem OnlP.trans {P:Nat→Prop} {w W w':World} (h:OnlP P w W) (k:OnlP P W w'):OnlP P w w':=⟨k.1.trans h.1,k.2.1.trans h.2.1,k.2.2.1.trans h.2.2.1,Nat.le_trans h.2.2.2.1 k.2.2.2.1,fun i hi hr=>(k.2.2.2.2 i (Nat.lt_of_lt_of_le hi h.2.2.2.1) hr).trans (h.2.2.2.2 i hi hr)⟩
theorem OnlP.of_below {P:Nat→Prop} {w w':World} (h:Below w.heap.size w w'):OnlP P w w':=⟨h.os,h.tape,h.output,h.size,fun i hi _=>h.block i hi⟩
theorem OnlP.of_grown {P:Nat→Prop} {w w':World} {v:Value} (h:w.grownBy w' v.ownBlock) (hr:∀ i,v.ownBlock=some i→P i):OnlP P w w':=⟨h.os,h.tape,h.output,h.size,fun i hi hn=>h.block i hi fun e=>hn (hr i e.symm)⟩
theorem OnlP.of_onl {P:Nat→Prop} {w w':World} {v v':Value} (h:Onl v.ownBlock v'.ownBlock w w') (hr:∀ i,v.ownBlock=some i→P i) (hr':∀ i,v'.ownBlock=some i→P i):OnlP P w w':=⟨h.1,h.2.1,h.2.2.1,h.2.2.2.1,fun i hi hn=>h.2.2.2.2 i hi (fun e=>hn (hr i e.symm)) (fun e=>hn (hr' i e.symm))⟩
theorem OnlP.toR {P:Nat→Prop} {lo hi:Nat} {w w':World} (h:OnlP P w w') (hP:∀ i,P i→lo≤i∧i<hi):OnlR lo hi w w':=⟨h.1,h.2.1,h.2.2.1,h.2.2.2.1,fun i hi hn=>h.2.2.2.2 i hi fun e=>by have:=hP i e;omega⟩
/-- It is a block of one of four lists. -/
def OfW (a b d e:Option Addr) (i:Nat):Prop:=(Value.slice a 0 0).ownBlock=some i∨(Value.slice b 0 0).ownBlock=some i∨(Value.slice d 0 0).ownBlock=some i∨(Value.slice e 0 0).ownBlock=some i
/-- A list's block lies below hi. -/
def Lt (hi:Nat) (a:Option Addr):Prop:=∀ i,(Value.slice a 0 0).ownBlock=some i→i<hi
theorem ownBlock_len (a:Option Addr) (n p:Nat):(Value.slice a n p).ownBlock=(Value.slice a 0 0).ownBlock:=by rcases a with _|⟨i,_|o,k⟩ <;> rfl
theorem New.keptR {w w':World} {lo lo' hi' n k p:Nat} {a:Option Addr} {f:Nat→Nat→Value} (h:New w lo (.slice a n p) n k f) (ho:OnlR lo' hi' w w') (hr:(∀ i,(Value.slice a 0 0).ownBlock=some i→i<lo'∨hi'≤i)):New w' lo (.slice a n p) n k f:=by
  rcases h with h|⟨g,cap,e,h3,h4⟩
  · exact .inl h
  · refine .inr ⟨g,cap,e,h3,h4.of_block (ho.2.2.2.2 g h4.lt (hr g ?_))⟩
    simp at e
    rw [e.1];rfl
/-- A world's lists lie in four blocks from lo to below hi. -/
def NewW (w:World) (lo hi:Nat) (x:Wo) (a b d e:Option Addr) (p q r s:Nat):Prop:=(New w lo (.slice a x.ch.cells.length p) x.ch.cells.length 3 (cellF x.ch.cells)∧New w lo (.slice b x.ch.words.length q) x.ch.words.length 1 (intF x.ch.words)∧New w lo (.slice d x.hands.length r) x.hands.length 14 (handF x.hands)∧New w lo (.slice e x.deals.length s) x.deals.length 7 (dealF x.deals))∧(Lt hi a∧Lt hi b∧Lt hi d∧Lt hi e)
/-- A world's lists hold the numbers that were written. -/
def MkW (w:World) (lo hi:Nat) (x:Wo) (a b d e:Option Addr) (p q r s:Nat):Prop:=(New w lo (.slice a x.ch.cells.length p) x.ch.cells.length 3 (cellF (marksC 1 x.ch.cells.length))∧New w lo (.slice b x.ch.words.length q) x.ch.words.length 1 (intF (marksI (1+3*(x.ch.cells.length:Int)) x.ch.words.length))∧New w lo (.slice d x.hands.length r) x.hands.length 14 (numF 14 (1+3*(x.ch.cells.length:Int)+x.ch.words.length))∧New w lo (.slice e x.deals.length s) x.deals.length 7 (numF 7 (1+3*(x.ch.cells.length:Int)+x.ch.words.length+14*x.hands.length)))∧(Lt hi a∧Lt hi b∧Lt hi d∧Lt hi e)
/-- The four lists lie apart. -/
def Apart (a b d e:Option Addr):Prop:=(∀ i,(Value.slice a 0 0).ownBlock=some i→(Value.slice b 0 0).ownBlock≠some i∧(Value.slice d 0 0).ownBlock≠some i∧(Value.slice e 0 0).ownBlock≠some i)∧(∀ i,(Value.slice b 0 0).ownBlock=some i→(Value.slice d 0 0).ownBlock≠some i∧(Value.slice e 0 0).ownBlock≠some i)∧(∀ i,(Value.slice d 0 0).ownBlock=some i→(Value.slice e 0 0).ownBlock≠some i)
def wsum (x:Wo):Int:=1+3*(x.ch.cells.length:Int)+x.ch.words.length+14*x.hands.length+7*x.deals.length
theorem New.lo' {w:World} {lo n k p:Nat} {a:Option Addr} {f:Nat→Nat→Value} (h:New w lo (.slice a n p) n k f):∀ i,(Value.slice a 0 0).ownBlock=some i→lo≤i∧i<w.heap.size:=fun i hi=>h.lt (by rw [ownBlock_len];exact hi)
theorem NewW.keptR {w w':World} {lo hi:Nat} {x:Wo} {a b d e:Option Addr} {p q r s:Nat} {lo' hi':Nat} (h:NewW w lo hi x a b d e p q r s) (ho:OnlR lo' hi' w w') (hr:hi≤lo'∨hi'≤lo):NewW w' lo hi x a b d e p q r s:=by
  obtain ⟨⟨h1,h2,h3,h4⟩,l1,l2,l3,l4⟩:=h
  have A:∀ {z:Option Addr},(∀ i,(Value.slice z 0 0).ownBlock=some i→lo≤i∧i<w.heap.size)→Lt hi z→∀ i,(Value.slice z 0 0).ownBlock=some i→i<lo'∨hi'≤i:=fun h k i e=>by have:=h i e;have:=k i e;omega
  exact ⟨⟨h1.keptR ho (A h1.lo' l1),h2.keptR ho (A h2.lo' l2),h3.keptR ho (A h3.lo' l3),h4.keptR ho (A h4.lo' l4)⟩,l1,l2,l3,l4⟩
theorem MkW.keptR {w w':World} {lo hi:Nat} {x:Wo} {a b d e:Option Addr} {p q r s:Nat} {lo' hi':Nat} (h:MkW w lo hi x a b d e p q r s) (ho:OnlR lo' hi' w w') (hr:hi≤lo'∨hi'≤lo):MkW w' lo hi x a b d e p q r s:=by
  obtain ⟨⟨h1,h2,h3,h4⟩,l1,l2,l3,l4⟩:=h
  have A:∀ {z:Option Addr},(∀ i,(Value.slice z 0 0).ownBlock=some i→lo≤i∧i<w.heap.size)→Lt hi z→∀ i,(Value.slice z 0 0).ownBlock=some i→i<lo'∨hi'≤i:=fun h k i e=>by have:=h i e;have:=k i e;omega
  exact ⟨⟨h1.keptR ho (A h1.lo' l1),h2.keptR ho (A h2.lo' l2),h3.keptR ho (A h3.lo' l3),h4.keptR ho (A h4.lo' l4)⟩,l1,l2,l3,l4⟩
theorem NewW.below {w w':World} {lo hi:Nat} {x:Wo} {a b d e:Option Addr} {p q r s:Nat} (h:NewW w lo hi x a b d e p q r s) (hb:Below w.heap.size w w'):NewW w' lo hi x a b d e p q r s:=⟨⟨h.1.1.below hb,h.1.2.1.below hb,h.1.2.2.1.below hb,h.1.2.2.2.below hb⟩,h.2⟩
theorem MkW.below {w w':World} {lo hi:Nat} {x:Wo} {a b d e:Option Addr} {p q r s:Nat} (h:MkW w lo hi x a b d e p q r s) (hb:Below w.heap.size w w'):MkW w' lo hi x a b d e p q r s:=⟨⟨h.1.1.below hb,h.1.2.1.below hb,h.1.2.2.1.below hb,h.1.2.2.2.below hb⟩,h.2⟩
theorem New.segS {w:World} {lo n k p:Nat} {a:Option Addr} {f:Nat→Nat→Value} (h:New w lo (.slice a n p) n k f):Seg w w.heap.size a n k f:=by
  obtain ⟨a',cap',e,hs⟩:=h.seg
  simp at e
  obtain ⟨rfl,rfl⟩:=e
  exact hs
theorem NewW.ofW {w w':World} {lo hi:Nat} {x:Wo} {a b d e:Option Addr} {p q r s:Nat} (h:NewW w lo hi x a b d e p q r s) (i:Nat) (ho:OfW a b d e i):lo≤i∧i<hi∧i<w.heap.size:=by
  obtain ⟨⟨h1,h2,h3,h4⟩,l1,l2,l3,l4⟩:=h
  rcases ho with o|o|o|o
  · exact ⟨(h1.lo' i o).1,l1 i o,(h1.lo' i o).2⟩
  · exact ⟨(h2.lo' i o).1,l2 i o,(h2.lo' i o).2⟩
  · exact ⟨(h3.lo' i o).1,l3 i o,(h3.lo' i o).2⟩
  · exact ⟨(h4.lo' i o).1,l4 i o,(h4.lo' i o).2⟩
theorem NewW.seg {w w':World} {lo hi:Nat} {x:Wo} {a b d e:Option Addr} {p q r s:Nat} (h:NewW w lo hi x a b d e p q r s):SegW w w.heap.size x a b d e:=⟨h.1.1.segS,h.1.2.1.segS,h.1.2.2.1.segS,h.1.2.2.2.segS⟩
/-- As the lists lie in a later world. -/
theorem NewW.segAt {w w':World} {lo hi:Nat} {x:Wo} {a b d e:Option Addr} {p q r s:Nat} (h:NewW w lo hi x a b d e p q r s) (hb:Below w.heap.size w w'):SegW w' w'.heap.size x a b d e:=NewW.seg (w':=w') (h.below hb)
theorem Row.newS {w:World} {g n k lo:Nat} {t:TypeId} {f:Nat→Nat→Value} (h:Row w g t n k f) (hl:lo≤g):New w lo (.slice (some ⟨g,0,none⟩) n n) n k f:=.inr ⟨g,_,rfl,hl,h.lie⟩
theorem MadeW.new {w:World} {lo:Nat} {x:Wo} {g1 g2 g3 g4:Nat} (h:MadeW w lo x g1 g2 g3 g4):NewW w lo w.heap.size x (some ⟨g1,0,none⟩) (some ⟨g2,0,none⟩) (some ⟨g3,0,none⟩) (some ⟨g4,0,none⟩) x.ch.cells.length x.ch.words.length x.hands.length x.deals.length∧Apart (some ⟨g1,0,none⟩) (some ⟨g2,0,none⟩) (some ⟨g3,0,none⟩) (some ⟨g4,0,none⟩):=by
  obtain ⟨⟨k1,k2,k3,k4⟩,r1,r2,r3,r4⟩:=h
  have c:∀ {g:Nat} i,(Value.slice (some ⟨g,0,none⟩) 0 0).ownBlock=some i→i=g:=fun i e=>by simp [Value.ownBlock] at e;exact e.symm
  have o:∀ g:Nat,(Value.slice (some ⟨g,0,none⟩) 0 0).ownBlock=some g:=fun g=>rfl
  have n12:=r1.ty r2 (by decide)
  have n13:=r1.ty r3 (by decide)
  have n14:=r1.ty r4 (by decide)
  have n23:=r2.ty r3 (by decide)
  have n24:=r2.ty r4 (by decide)
  have n34:=r3.ty r4 (by decide)
  refine ⟨⟨⟨r1.newS k1,r2.newS k2,r3.newS k3,r4.newS k4⟩,fun i e=>(c i e) ▸ r1.lt,fun i e=>(c i e) ▸ r2.lt,fun i e=>(c i e) ▸ r3.lt,fun i e=>(c i e) ▸ r4.lt⟩,⟨fun i e=>?_,fun i e=>?_,fun i e=>?_⟩⟩
  · obtain rfl:=c i e;exact ⟨fun e2=>n12 (c _ e2),fun e2=>n13 (c _ e2),fun e2=>n14 (c _ e2)⟩
  · obtain rfl:=c i e;exact ⟨fun e2=>n23 (c _ e2),fun e2=>n24 (c _ e2)⟩
  · obtain rfl:=c i e;exact fun e2=>n34 (c _ e2)
theorem own_new {w:World} {lo:Nat} {t:TypeId} {n k:Nat} {v:Value} {xs:List Value} {f:Nat→Nat→Value} (h:w.ownsRow lo t k v n xs) (hl:xs.length=n*k) (hf:∀ i j,i<n→j<k→xs[i*k+j]?=some (f i j)):∃ a p,v=.slice a n p∧New w lo (.slice a n p) n k f:=by
  rcases h.2 with ⟨h1,h0⟩|⟨g,cap,cur,rfl,hlo,hg,h4,h5,h6,h7⟩
  · subst h0;exact ⟨none,0,h1,.inl ⟨rfl,rfl⟩⟩
  · refine ⟨_,_,rfl,.inr ⟨g,cap,rfl,hlo,cur,_,hg,?_,fun i j hi hj=>?_⟩⟩
    · have e:=congrArg List.length h7
      rw [List.length_take,hl] at e
      simp at e;omega
    · have:=h.cells (g:=g) rfl (i*k+j) _ (hf i j hi hj)
      have e2:(⟨g,0,none⟩:Addr).add (i*k+j)=⟨g,i*k+j,none⟩:=by generalize i*k+j=m;by_cases e:m=0 <;> simp [Addr.add,e]
      rw [e2] at this
      simpa [World.cell?,hg] using this
theorem own_apart2 {w:World} {lo lo':Nat} {t t':TypeId} {k k' n n' p p':Nat} {a a':Option Addr} {xs xs':List Value} (h:w.ownsRow lo t k (.slice a n p) n xs) (h':w.ownsRow lo' t' k' (.slice a' n' p') n' xs') (hne:t≠t'):∀ i,(Value.slice a 0 0).ownBlock=some i→(Value.slice a' 0 0).ownBlock≠some i:=by
  intro i e e'
  rcases own_off_ty h h' hne with h0|h0
  · rw [ownBlock_len,e] at h0;cases h0
  · rw [ownBlock_len,ownBlock_len a',e,e'] at h0;exact h0 rfl
theorem WOwn.new {w:World} {lo:Nat} {v1 v2 v3 v4:Value} {x:Wo} (h:WOwn w lo v1 v2 v3 v4 x):∃ a b d e p q r s,v1=.slice a x.ch.cells.length p∧v2=.slice b x.ch.words.length q∧v3=.slice d x.hands.length r∧v4=.slice e x.deals.length s∧NewW w lo w.heap.size x a b d e p q r s∧Apart a b d e:=by
  obtain ⟨h1,h2,h3,h4⟩:=h
  obtain ⟨a,p,rfl,n1⟩:=own_new h1 (flatC_len _) (flatC_get _)
  obtain ⟨b,q,rfl,n2⟩:=own_new (f:=intF x.ch.words) h2 (by simp [ints_len]) (fun i j hi hj=>by (obtain rfl:j=0:=(by omega));simp [ints,intF,List.getD,hi])
  obtain ⟨d,r,rfl,n3⟩:=own_new h3 (flatH_len _) (flatH_get _)
  obtain ⟨e,s,rfl,n4⟩:=own_new h4 (flatD_len _) (flatD_get _)
  exact ⟨a,b,d,e,p,q,r,s,rfl,rfl,rfl,rfl,⟨⟨n1,n2,n3,n4⟩,fun i hi=>(n1.lo' i hi).2,fun i hi=>(n2.lo' i hi).2,fun i hi=>(n3.lo' i hi).2,fun i hi=>(n4.lo' i hi).2⟩,fun i hi=>⟨own_apart2 h1 h2 (by decide) i hi,own_apart2 h1 h3 (by decide) i hi,own_apart2 h1 h4 (by decide) i hi⟩,fun i hi=>⟨own_apart2 h2 h3 (by decide) i hi,own_apart2 h2 h4 (by decide) i hi⟩,fun i hi=>own_apart2 h3 h4 (by decide) i hi⟩
end Go.Proofs.YtmnpgkcdfielbaaGreat
set_option linter.unusedSimpArgs false
set_option linter.unusedVariables false
namespace Go.Proofs.YtmnpgkcdfielbaaGreat
open Go.RowKit
set_option linter.unusedSimpArgs false
theorem ap {a b:Option Addr} (h:∀ i,(Value.slice a 0 0).ownBlock=some i→(Value.slice b 0 0).ownBlock≠some i) (n p n' p':Nat):∀ i,(Value.slice a n p).ownBlock=some i→(Value.slice b n' p').ownBlock≠some i:=fun i e=>by rw [ownBlock_len b];exact h i (by rw [← ownBlock_len a n p];exact e)
theorem ap2 {a b:Option Addr} (h:∀ i,(Value.slice a 0 0).ownBlock=some i→(Value.slice b 0 0).ownBlock≠some i) (n p n' p':Nat):∀ i,(Value.slice b n p).ownBlock=some i→(Value.slice a n' p').ownBlock≠some i:=fun i e e2=>ap h n' p' n p i e2 e
theorem own_ap {v v':Value} (h:∀ i,v.ownBlock=some i→v'.ownBlock≠some i):v'.ownBlock=none∨v.ownBlock≠v'.ownBlock:=by
  cases e:v'.ownBlock with
  | none=>exact .inl rfl
  | some i=>exact .inr fun e2=>h i e2 e
set_option maxRecDepth 100000 in
set_option maxHeartbeats 4000000 in
theorem markWorld_any (x:Wo) (a b d e:Option Addr) (p q r s:Nat) (lo hi:Nat) (w:World) (h:NewW w lo hi x a b d e p q r s) (ha:Apart a b d e) (m:LenW x) :
    Calls Tryz.prog 10 #[.agg #[.int .i64 x.ch.cap,.int .i64 x.ch.sent,.int .i64 x.ch.got,.int .i64 x.ch.fin,.slice a x.ch.cells.length p,.slice b x.ch.words.length q,.slice d x.hands.length r,.slice e x.deals.length s,.int .i64 x.now],.int .i64 1] w fun r' w'=>r'=.returned (.int .i64 (wsum x))∧MkW w' lo hi x a b d e p q r s∧OnlP (OfW a b d e) w w':=by
  have hP0:¬ OfW a b d e w.heap.size:=fun o=>by have:=(NewW.ofW (w':=w) h _ o).2.2;omega
  unfold MkW wsum
  obtain ⟨⟨cap,sent,got,fin,cells,words⟩,hands,deals,now⟩:=x
  obtain ⟨m1,m2,m3,m4⟩:=m
  obtain ⟨⟨h1,h2,h3,h4⟩,l1,l2,l3,l4⟩:=h
  simp only at *
  obtain ⟨k1,e1⟩:∃ k:Int,k=1+3*(cells.length:Int):=⟨_,rfl⟩
  obtain ⟨k2,e2⟩:∃ k:Int,k=k1+words.length:=⟨_,rfl⟩
  obtain ⟨k3,e3⟩:∃ k:Int,k=k2+14*hands.length:=⟨_,rfl⟩
  rw [← e1,← e2,← e3]
  have b1:0≤k2∧k2≤1099511627776:=by omega
  have b2:0≤k3∧k3≤1099511627776:=by omega
  have H1:=Lib.hid h1
  have H2:=Lib.hid h2
  have H3:=Lib.hid h3
  have H4:=Lib.hid h4
  have L1:=Lib.hid l1
  have L2:=Lib.hid l2
  have L3:=Lib.hid l3
  have L4:=Lib.hid l4
  have HA:=Lib.hid ha
  have E1:=Lib.hid e1
  have E2:=Lib.hid e2
  have E3:=Lib.hid e3
  clear h1 h2 h3 h4 l1 l2 l3 l4 ha e1 e2 e3
  go_enter Tryz.func10,Tryz.ntmps10
  go_wp2_with fail
  refine (markChan_any cells.length words.length (cellF cells) (intF words) cap sent got fin lo lo _ _ 1 k1 _ (H1.out.below (by exact zB)) (H2.out.below (by exact zB)) (ap (fun i e=>(HA.out.1 i e).1) _ _ _ _) (by omega) (by omega) E1.out m1 m2).mono ?_
  rintro _ w1 ⟨rfl,N1,N2,hO⟩
  rw [← E2.out]
  have R1:OnlP (OfW a b d e) _ w1:=OnlP.of_onl hO (fun i e=>.inl (by rw [← ownBlock_len a cells.length p];exact e)) (fun i e=>.inr (.inl (by rw [← ownBlock_len b words.length q];exact e)))
  have hs1:=R1.2.2.2.1
  try simp at hs1
  have:=fun o=>R1.cell (i:=w.heap.size) (by simp) hP0 o
  have N3:=((H3.out).below (w1:=w.alloc (.cells #[.int .i64 cap,.int .i64 sent,.int .i64 got,.int .i64 fin,.slice a cells.length p,.slice b words.length q,.slice d hands.length r,.slice e deals.length s,.int .i64 now] 38)) (by exact zB)).keptO hO (ap2 (fun i e=>(HA.out.1 i e).2.1) _ _ _ _) (ap2 (fun i e=>(HA.out.2.1 i e).1) _ _ _ _)
  have N4:=((H4.out).below (w1:=w.alloc (.cells #[.int .i64 cap,.int .i64 sent,.int .i64 got,.int .i64 fin,.slice a cells.length p,.slice b words.length q,.slice d hands.length r,.slice e deals.length s,.int .i64 now] 38)) (by exact zB)).keptO hO (ap2 (fun i e=>(HA.out.1 i e).2.2) _ _ _ _) (ap2 (fun i e=>(HA.out.2.1 i e).2) _ _ _ _)
  have RW:=Lib.hid ((OnlP.of_below (P:=OfW a b d e) (by exact zB:Below w.heap.size w (w.alloc (.cells #[.int .i64 cap,.int .i64 sent,.int .i64 got,.int .i64 fin,.slice a cells.length p,.slice b words.length q,.slice d hands.length r,.slice e deals.length s,.int .i64 now] 38)))).trans R1)
  have M1:Hid (New w1 lo (.slice a cells.length p) cells.length 3 (cellF (marksC 1 cells.length))):=Lib.hid (by have z:=N1;unfold NewC at z;rw [marksC_len] at z;exact z)
  have M2:Hid (New w1 lo (.slice b words.length q) words.length 1 (intF (marksI k1 words.length))):=Lib.hid (by have z:=N2;unfold NewI at z;rw [marksI_len] at z;exact z)
  have M3:=Lib.hid N3
  have M4:=Lib.hid N4
  clear N1 N2 N3 N4 hO R1
  go_wp2_with fail
  refine (markHandS_any hands.length _ lo _ k2 _ M3.out b1.1 b1.2 m3).mono ?_
  rintro _ w2 ⟨rfl,N3,hg⟩
  rw [← E3.out]
  have R2:OnlP (OfW a b d e) _ w2:=OnlP.of_grown hg (fun i e=>.inr (.inr (.inl (by rw [← ownBlock_len d hands.length r];exact e))))
  have hs2:=R2.2.2.2.1
  try simp at hs2
  have:=fun o=>R2.cell (i:=w.heap.size) (by omega) hP0 o
  have P1:=Lib.hid (M1.out.kept hg (own_ap (ap (fun i e=>(HA.out.1 i e).2.1) _ _ _ _)))
  have P2:=Lib.hid (M2.out.kept hg (own_ap (ap (fun i e=>(HA.out.2.1 i e).1) _ _ _ _)))
  have P3:=Lib.hid N3
  have P4:=Lib.hid (M4.out.kept hg (own_ap (ap2 (HA.out.2.2) _ _ _ _)))
  have RV:=Lib.hid (RW.out.trans R2)
  clear N3 hg R2 M1 M2 M3 M4 RW
  go_wp2_with fail
  refine (markDealS_any deals.length _ lo _ k3 _ P4.out b2.1 b2.2 m4).mono ?_
  rintro _ w3 ⟨rfl,N4,hg⟩
  have R3:OnlP (OfW a b d e) _ w3:=OnlP.of_grown hg (fun i e'=>.inr (.inr (.inr (by rw [← ownBlock_len e deals.length s];exact e'))))
  have hs3:=R3.2.2.2.1
  have:=fun o=>R3.cell (i:=w.heap.size) (by omega) hP0 o
  have Q1:=Lib.hid (P1.out.kept hg (own_ap (ap (fun i e=>(HA.out.1 i e).2.2) _ _ _ _)))
  have Q2:=Lib.hid (P2.out.kept hg (own_ap (ap (fun i e=>(HA.out.2.1 i e).2) _ _ _ _)))
  have Q3:=Lib.hid (P3.out.kept hg (own_ap (ap (HA.out.2.2) _ _ _ _)))
  have Q4:=Lib.hid N4
  have RU:=Lib.hid (RV.out.trans R3)
  clear N4 hg R3 P1 P2 P3 P4 RV
  go_wp2
  go_ret
  exact ⟨rfl,⟨⟨Q1.out,Q2.out,Q3.out,Q4.out⟩,L1.out,L2.out,L3.out,L4.out⟩,RU.out⟩
end Go.Proofs.YtmnpgkcdfielbaaGreat
set_option linter.unusedSimpArgs false
set_option linter.unusedVariables false
namespace Go.Proofs.YtmnpgkcdfielbaaGreat
open Go.RowKit
def wvals (x:Wo) (v1 v2 v3 v4:Value):Array Value:=#[.int .i64 x.ch.cap,.int .i64 x.ch.sent,.int .i64 x.ch.got,.int .i64 x.ch.fin,v1,v2,v3,v4,.int .i64 x.now]
theorem wv_ne (x:Wo) (v1 v2 v3 v4:Value):(wvals x v1 v2 v3 v4=#[])=False:=by simp [wvals]
theorem wv_size (x:Wo) (v1 v2 v3 v4:Value):(wvals x v1 v2 v3 v4).size=9:=rfl
theorem infoWo:(Tryz.prog.info? 38).map (fun i=>(i.zero,i.size,i.bytes))=some (some (.agg (wvals Wo.zero (.slice none 0 0) (.slice none 0 0) (.slice none 0 0) (.slice none 0 0))),9,136):=by kernel_rfl
theorem zeroWo (w:World):(zeroValue 38).run Tryz.prog w=.ok (.agg (wvals Wo.zero (.slice none 0 0) (.slice none 0 0) (.slice none 0 0) (.slice none 0 0))) w:=by
  obtain ⟨i,hi,hz,_⟩:=info_parts infoWo
  have e:Tryz.prog.info? 38=some Tryz.t38:=by kernel_rfl
  obtain rfl:Tryz.t38=i:=by rw [e] at hi;exact Option.some.inj hi
  simp [zeroValue,go_sem,hz]
theorem aggWo (w:World):(isAgg 38).run Tryz.prog w=.ok true w:=by simp [isAgg,go_sem]
theorem aggWoL (w:World):(isAgg 29).run Tryz.prog w=.ok true w:=by simp [isAgg,go_sem]
theorem szWo (w:World):(sizeOf 38).run Tryz.prog w=.ok 9 w:=by simp [go_sem]
theorem szWoL (w:World):(sizeOf 29).run Tryz.prog w=.ok 9 w:=by simp [go_sem]
variable {w:World} {b:Nat}
/-- Loading whole, as one word. -/
def LWo (x:Value):Sem Value:=Instr.loadAt 38 x
def LWoL (x:Value):Sem Value:=Instr.loadAt 29 x
theorem toLWo (x:Value):Instr.loadAt 38 x=LWo x:=by unfold LWo;simp
theorem toLWoL (x:Value):Instr.loadAt 29 x=LWoL x:=by unfold LWoL;simp
theorem runLWo (h:okO 9 (hp w b)=true):(LWo (.pointer (some ⟨b,0,none⟩))).run Tryz.prog w=.ok (.agg (cellsO (hp w b))) w:=by
  simp only [LWo,Instr.loadAt,Instr.sureAddr,Sem.run_bind,Sem.run_pure,Result.andThen_ok,load_box aggWo szWo h]
theorem runLWoL (h:okO 9 (hp w b)=true):(LWoL (.pointer (some ⟨b,0,none⟩))).run Tryz.prog w=.ok (.agg (cellsO (hp w b))) w:=by
  simp only [LWoL,Instr.loadAt,Instr.sureAddr,Sem.run_bind,Sem.run_pure,Result.andThen_ok,load_box aggWoL szWoL h]
theorem storeWo (x:Wo) (a b' d e:Option Addr) (n1 p n2 q n3 r n4 s:Nat) (h:okO 9 (hp w b)=true):(Instr.storeAt 38 (.pointer (some ⟨b,0,none⟩)) (.agg (wvals x (.slice a n1 p) (.slice b' n2 q) (.slice d n3 r) (.slice e n4 s)))).run Tryz.prog w=.ok () (setBox w b (wvals x (.slice a n1 p) (.slice b' n2 q) (.slice d n3 r) (.slice e n4 s))):=by
  simp only [Instr.storeAt,Instr.sureAddr,Sem.run_bind,Sem.run_pure,Result.andThen_ok]
  exact store_box szWo h rfl (by simp [wvals,Value.oneCell'])
theorem storeWoC (x:Wo) (a b' d e:Option Addr) (n1 p n2 q n3 r n4 s:Nat) (h:okO 9 (hp w b)=true):(storeCells ⟨b,0,none⟩ (wvals x (.slice a n1 p) (.slice b' n2 q) (.slice d n3 r) (.slice e n4 s)).toList).run Tryz.prog w=.ok () (setBox w b (wvals x (.slice a n1 p) (.slice b' n2 q) (.slice d n3 r) (.slice e n4 s))):=store_cells h rfl (by simp [wvals,Value.oneCell'])
theorem OnlR.hpk {lo hi:Nat} {w w':World} {x:Array Value} {t:TypeId} (k:OnlR lo hi w w') {i:Nat} (z:hp w i=some (.cells x t)) (hr:i<lo∨hi≤i):hp w' i=some (.cells x t):=(k.2.2.2.2 i (bO z).2.2 hr).trans z
/-- Where there is no list it holds nothing. -/
def NoneW (x:Wo) (a b d e:Option Addr) (p1 p2 p3 p4:Nat):Prop:=(a=none→p1=0)∧(b=none→p2=0)∧(d=none→x.hands.length=0∧p3=0)∧(e=none→x.deals.length=0∧p4=0)
theorem OnlP.hpk {P:Nat→Prop} {w w':World} {x:Array Value} {t:TypeId} (k:OnlP P w w') {i:Nat} (z:hp w i=some (.cells x t)) (hr:¬ P i):hp w' i=some (.cells x t):=(k.2.2.2.2 i (bO z).2.2 hr).trans z
theorem noneS (x:Wo) (a b d e:Addr) (p q r s:Nat):NoneW x (some a) (some b) (some d) (some e) p q r s:=⟨nofun,nofun,nofun,nofun⟩
theorem toWorldB (x:Wo) (a b d e:Option Addr) (p1 p2 p3 p4:Nat) (w:World) (h:SegW w w.heap.size x a b d e) (m:LenW x) :
    Calls Tryz.prog 6 #[.agg (wvals x (.slice a x.ch.cells.length p1) (.slice b x.ch.words.length p2) (.slice d x.hands.length p3) (.slice e x.deals.length p4))] w fun r' w'=>(∃ g1 g2 g3 g4,r'=.returned (.agg (wvals x (.slice (some ⟨g1,0,none⟩) x.ch.cells.length x.ch.cells.length) (.slice (some ⟨g2,0,none⟩) x.ch.words.length x.ch.words.length) (.slice (some ⟨g3,0,none⟩) x.hands.length x.hands.length) (.slice (some ⟨g4,0,none⟩) x.deals.length x.deals.length)))∧MadeW w' w.heap.size x g1 g2 g3 g4)∧Below w.heap.size w w':=toWorld_any x a b d e p1 p2 p3 p4 w h m
theorem MadeW.belowS {w w':World} {lo:Nat} {x:Wo} {g1 g2 g3 g4:Nat} (h:MadeW w lo x g1 g2 g3 g4) (hb:Below w.heap.size w w'):MadeW w' lo x g1 g2 g3 g4:=h.below hb (Nat.le_refl _)
theorem MadeW.lo' {w:World} {lo l:Nat} {x:Wo} {g1 g2 g3 g4:Nat} (h:MadeW w lo x g1 g2 g3 g4) (hl:l≤lo):MadeW w l x g1 g2 g3 g4:=⟨⟨Nat.le_trans hl h.1.1,Nat.le_trans hl h.1.2.1,Nat.le_trans hl h.1.2.2.1,Nat.le_trans hl h.1.2.2.2⟩,h.2⟩
theorem alloc_sz (W:World) (o:Obj):(W.alloc o).heap.size=W.heap.size+1:=Array.size_push _
theorem WOwn.belowS {w w':World} {lo:Nat} {v1 v2 v3 v4:Value} {y:Wo} (h:WOwn w lo v1 v2 v3 v4 y) (hb:Below w.heap.size w w'):WOwn w' lo v1 v2 v3 v4 y:=⟨own_below h.1 hb,own_below h.2.1 hb,own_below h.2.2.1 hb,own_below h.2.2.2 hb⟩
theorem WOwn.lo' {w:World} {lo l:Nat} {v1 v2 v3 v4:Value} {y:Wo} (h:WOwn w lo v1 v2 v3 v4 y) (hl:l≤lo):WOwn w l v1 v2 v3 v4 y:=⟨own_lo h.1 hl,own_lo h.2.1 hl,own_lo h.2.2.1 hl,own_lo h.2.2.2 hl⟩
theorem WOwn.far {w:World} {lo b:Nat} {v1 v2 v3 v4:Value} {y:Wo} {xs ys:Array Value} (h:WOwn w lo v1 v2 v3 v4 y) (hz:hp w b=some (.cells xs 38)):WOwn (setBox w b ys) lo v1 v2 v3 v4 y:=⟨own_far h.1 hz (by decide),own_far h.2.1 hz (by decide),own_far h.2.2.1 hz (by decide),own_far h.2.2.2 hz (by decide)⟩
theorem wsum_pos (x:Wo):¬ wsum x<0:=by unfold wsum;omega
attribute [go_sem] runLWo runLWoL wv_ne wv_size
end Go.Proofs.YtmnpgkcdfielbaaGreat
set_option linter.unusedSimpArgs false
set_option linter.unusedVariables false
namespace Go.Proofs.YtmnpgkcdfielbaaGreat
open Go.RowKit
set_option linter.unusedSimpArgs false
attribute [local simp] bx_size
end Go.Proofs.YtmnpgkcdfielbaaGreat
set_option linter.unusedSimpArgs false
set_option linter.unusedVariables false
namespace Go.Proofs.YtmnpgkcdfielbaaGreat
open Go.RowKit
set_option linter.unusedSimpArgs false
attribute [local simp] bx_size
attribute [local go_sem ↓] zeroHand toLHand toVHand toSHand storeHandC
attribute [local go_sem] runSHand
end Go.Proofs.YtmnpgkcdfielbaaGreat
set_option linter.unusedSimpArgs false
set_option linter.unusedVariables false
namespace Go.Proofs.YtmnpgkcdfielbaaGreat
open Go.RowKit
set_option linter.unusedSimpArgs false
attribute [local simp] bx_size
attribute [local go_sem ↓] zeroHand toLHand toVHand toSHand storeHandC
attribute [local go_sem] runSHand
section
variable {w:World} {b b' o i:Nat} {x:Ha}
theorem se_cell (hi:b'<w.heap.size) (h:b'≠b):(setElem w b o x).cell? ⟨b',i,none⟩=w.cell? ⟨b',i,none⟩:=grCell (setElem_gr w b o x) hi (by simpa using h) i
theorem se_frozen (hi:b'<w.heap.size) (h:b'≠b):(setElem w b o x).frozen? ⟨b',i,none⟩=w.frozen? ⟨b',i,none⟩:=grFroz (setElem_gr w b o x) hi (by simpa using h) i
end
attribute [local go_sem] se_cell se_frozen setElem_size
end Go.Proofs.YtmnpgkcdfielbaaGreat
