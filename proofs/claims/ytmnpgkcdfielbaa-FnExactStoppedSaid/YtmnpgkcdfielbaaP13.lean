/-
  Worlds whose lists lie in a range of blocks of the call's own; the laws' helpers that write numbers into them and look for them; lists of at most 1048576 elements.
  The laws' helpers that write numbers into a world of the call's own and look for them; lists of at most 1048576 elements.
  A drawn region by an invariant: what has come up is a function to Bool, what lies in the slots a function to values; each operation is carried out once, whatever came up before it; no condition.
-/
import Derived.Test.YtmnpgkcdfielbaaP12
import Derived.Test.YtmnpgkcdfielbaaP01
import Derived.Deep.RegionHeld3
set_option linter.unusedSimpArgs false
set_option linter.unusedVariables false
namespace Go.Proofs.Ytmnpgkcdfielbaa
open Go.RowKit
set_option linter.unusedSimpArgs false
/-- Of what was there the blocks from lo to below hi alone may have turned. -/
def OnlR (lo hi:Nat) (w w':World):Prop:=w'.os=w.os∧w'.tape=w.tape∧w'.output=w.output∧w.heap.size≤w'.heap.size∧∀ i,i<w.heap.size→(i<lo∨hi≤i)→w'.heap[i]?=w.heap[i]?
theorem OnlR.below {lo hi:Nat} {w W W':World} {B:Nat} (h:Below B w W) (k:OnlR lo hi W W') (hB:B≤lo) (hs:B≤W.heap.size):Below B w W':=⟨k.1.trans h.os,k.2.1.trans h.tape,k.2.2.1.trans h.output,Nat.le_trans h.size k.2.2.2.1,fun i hi=>(k.2.2.2.2 i (Nat.lt_of_lt_of_le hi hs) (.inl (Nat.lt_of_lt_of_le hi hB))).trans (h.block i hi)⟩
theorem OnlR.cell {lo hi:Nat} {w w':World} (k:OnlR lo hi w w') {i:Nat} (h:i<w.heap.size) (hr:i<lo∨hi≤i) (o:Nat):w'.cell? ⟨i,o,none⟩=w.cell? ⟨i,o,none⟩:=World.cell?_of_block (k.2.2.2.2 i h hr)
theorem OnlR.frozen {lo hi:Nat} {w w':World} (k:OnlR lo hi w w') {i:Nat} (h:i<w.heap.size) (hr:i<lo∨hi≤i) (o:Nat):w'.frozen? ⟨i,o,none⟩=w.frozen? ⟨i,o,none⟩:=by
  unfold World.frozen?
  rw [k.2.2.2.2 i h hr]
theorem OnlR.trans {lo hi:Nat} {w W w':World} (h:OnlR lo hi w W) (k:OnlR lo hi W w'):OnlR lo hi w w':=⟨k.1.trans h.1,k.2.1.trans h.2.1,k.2.2.1.trans h.2.2.1,Nat.le_trans h.2.2.2.1 k.2.2.2.1,fun i hi hr=>(k.2.2.2.2 i (Nat.lt_of_lt_of_le hi h.2.2.2.1) hr).trans (h.2.2.2.2 i hi hr)⟩
theorem OnlR.of_below {lo hi:Nat} {w w':World} (h:Below w.heap.size w w'):OnlR lo hi w w':=⟨h.os,h.tape,h.output,h.size,fun i hi _=>h.block i hi⟩
theorem OnlR.of_grown {lo hi:Nat} {w w':World} {v:Value} (h:w.grownBy w' v.ownBlock) (hr:∀ i,v.ownBlock=some i→lo≤i∧i<hi):OnlR lo hi w w':=⟨h.os,h.tape,h.output,h.size,fun i hi hn=>h.block i hi fun e=>by have:=hr i e.symm;omega⟩
theorem OnlR.of_onl {lo hi:Nat} {w w':World} {v v':Value} (h:Onl v.ownBlock v'.ownBlock w w') (hr:∀ i,v.ownBlock=some i→lo≤i∧i<hi) (hr':∀ i,v'.ownBlock=some i→lo≤i∧i<hi):OnlR lo hi w w':=⟨h.1,h.2.1,h.2.2.1,h.2.2.2.1,fun i hi hn=>h.2.2.2.2 i hi (fun e=>by have:=hr i e.symm;omega) (fun e=>by have:=hr' i e.symm;omega)⟩
/-- Of what was there the blocks of which P speaks alone may have turned. -/
def OnlP (P:Nat→Prop) (w w':World):Prop:=w'.os=w.os∧w'.tape=w.tape∧w'.output=w.output∧w.heap.size≤w'.heap.size∧∀ i,i<w.heap.size→¬ P i→w'.heap[i]?=w.heap[i]?
theorem OnlP.cell {P:Nat→Prop} {w w':World} (k:OnlP P w w') {i:Nat} (h:i<w.heap.size) (hr:¬ P i) (o:Nat):w'.cell? ⟨i,o,none⟩=w.cell? ⟨i,o,none⟩:=World.cell?_of_block (k.2.2.2.2 i h hr)
theorem OnlP.trans {P:Nat→Prop} {w W w':World} (h:OnlP P w W) (k:OnlP P W w'):OnlP P w w':=⟨k.1.trans h.1,k.2.1.trans h.2.1,k.2.2.1.trans h.2.2.1,Nat.le_trans h.2.2.2.1 k.2.2.2.1,fun i hi hr=>(k.2.2.2.2 i (Nat.lt_of_lt_of_le hi h.2.2.2.1) hr).trans (h.2.2.2.2 i hi hr)⟩
theorem OnlP.of_below {P:Nat→Prop} {w w':World} (h:Below w.heap.size w w'):OnlP P w w':=⟨h.os,h.tape,h.output,h.size,fun i hi _=>h.block i hi⟩
theorem OnlP.of_grown {P:Nat→Prop} {w w':World} {v:Value} (h:w.grownBy w' v.ownBlock) (hr:∀ i,v.ownBlock=some i→P i):OnlP P w w':=⟨h.os,h.tape,h.output,h.size,fun i hi hn=>h.block i hi fun e=>hn (hr i e.symm)⟩
theorem OnlP.of_onl {P:Nat→Prop} {w w':World} {v v':Value} (h:Onl v.ownBlock v'.ownBlock w w') (hr:∀ i,v.ownBlock=some i→P i) (hr':∀ i,v'.ownBlock=some i→P i):OnlP P w w':=⟨h.1,h.2.1,h.2.2.1,h.2.2.2.1,fun i hi hn=>h.2.2.2.2 i hi (fun e=>hn (hr i e.symm)) (fun e=>hn (hr' i e.symm))⟩
theorem OnlP.toR {P:Nat→Prop} {lo hi:Nat} {w w':World} (h:OnlP P w w') (hP:∀ i,P i→lo≤i∧i<hi):OnlR lo hi w w':=⟨h.1,h.2.1,h.2.2.1,h.2.2.2.1,fun i hi hn=>h.2.2.2.2 i hi fun e=>by have:=hP i e;omega⟩
/-- It is a block of one of four lists. -/
def OfW (a b d e:Option Addr) (i:Nat):Prop:=(Value.slice a 0 0).ownBlock=some i∨(Value.slice b 0 0).ownBlock=some i∨(Value.slice d 0 0).ownBlock=some i∨(Value.slice e 0 0).ownBlock=some i
/-- A list's block lies below hi. -/
def Lt (hi:Nat) (a:Option Addr):Prop:=∀ i,(Value.slice a 0 0).ownBlock=some i→i<hi
theorem ownBlock_len (a:Option Addr) (n p:Nat):(Value.slice a n p).ownBlock=(Value.slice a 0 0).ownBlock:=by rcases a with _|⟨i,_|o,k⟩ <;> rfl
theorem New.keptR {w w':World} {lo lo' hi' n k p:Nat} {a:Option Addr} {f:Nat→Nat→Value} (h:New w lo (.slice a n p) n k f) (ho:OnlR lo' hi' w w') (hr:(∀ i,(Value.slice a 0 0).ownBlock=some i→i<lo'∨hi'≤i)):New w' lo (.slice a n p) n k f:=by
  rcases h with h|⟨g,cap,e,h3,h4⟩
  · exact .inl h
  · refine .inr ⟨g,cap,e,h3,h4.of_block (ho.2.2.2.2 g h4.lt (hr g ?_))⟩
    simp at e
    rw [e.1];rfl
/-- A world's lists lie in four blocks from lo to below hi. -/
def NewW (w:World) (lo hi:Nat) (x:Wo) (a b d e:Option Addr) (p q r s:Nat):Prop:=(New w lo (.slice a x.ch.cells.length p) x.ch.cells.length 3 (cellF x.ch.cells)∧New w lo (.slice b x.ch.words.length q) x.ch.words.length 1 (intF x.ch.words)∧New w lo (.slice d x.hands.length r) x.hands.length 14 (handF x.hands)∧New w lo (.slice e x.deals.length s) x.deals.length 7 (dealF x.deals))∧(Lt hi a∧Lt hi b∧Lt hi d∧Lt hi e)
/-- A world's lists hold the numbers that were written. -/
def MkW (w:World) (lo hi:Nat) (x:Wo) (a b d e:Option Addr) (p q r s:Nat):Prop:=(New w lo (.slice a x.ch.cells.length p) x.ch.cells.length 3 (cellF (marksC 1 x.ch.cells.length))∧New w lo (.slice b x.ch.words.length q) x.ch.words.length 1 (intF (marksI (1+3*(x.ch.cells.length:Int)) x.ch.words.length))∧New w lo (.slice d x.hands.length r) x.hands.length 14 (numF 14 (1+3*(x.ch.cells.length:Int)+x.ch.words.length))∧New w lo (.slice e x.deals.length s) x.deals.length 7 (numF 7 (1+3*(x.ch.cells.length:Int)+x.ch.words.length+14*x.hands.length)))∧(Lt hi a∧Lt hi b∧Lt hi d∧Lt hi e)
/-- The four lists lie apart. -/
def Apart (a b d e:Option Addr):Prop:=(∀ i,(Value.slice a 0 0).ownBlock=some i→(Value.slice b 0 0).ownBlock≠some i∧(Value.slice d 0 0).ownBlock≠some i∧(Value.slice e 0 0).ownBlock≠some i)∧(∀ i,(Value.slice b 0 0).ownBlock=some i→(Value.slice d 0 0).ownBlock≠some i∧(Value.slice e 0 0).ownBlock≠some i)∧(∀ i,(Value.slice d 0 0).ownBlock=some i→(Value.slice e 0 0).ownBlock≠some i)
def wsum (x:Wo):Int:=1+3*(x.ch.cells.length:Int)+x.ch.words.length+14*x.hands.length+7*x.deals.length
theorem New.lo' {w:World} {lo n k p:Nat} {a:Option Addr} {f:Nat→Nat→Value} (h:New w lo (.slice a n p) n k f):∀ i,(Value.slice a 0 0).ownBlock=some i→lo≤i∧i<w.heap.size:=fun i hi=>h.lt (by rw [ownBlock_len];exact hi)
theorem NewW.keptR {w w':World} {lo hi:Nat} {x:Wo} {a b d e:Option Addr} {p q r s:Nat} {lo' hi':Nat} (h:NewW w lo hi x a b d e p q r s) (ho:OnlR lo' hi' w w') (hr:hi≤lo'∨hi'≤lo):NewW w' lo hi x a b d e p q r s:=by
  obtain ⟨⟨h1,h2,h3,h4⟩,l1,l2,l3,l4⟩:=h
  have A:∀ {z:Option Addr},(∀ i,(Value.slice z 0 0).ownBlock=some i→lo≤i∧i<w.heap.size)→Lt hi z→∀ i,(Value.slice z 0 0).ownBlock=some i→i<lo'∨hi'≤i:=fun h k i e=>by have:=h i e;have:=k i e;omega
  exact ⟨⟨h1.keptR ho (A h1.lo' l1),h2.keptR ho (A h2.lo' l2),h3.keptR ho (A h3.lo' l3),h4.keptR ho (A h4.lo' l4)⟩,l1,l2,l3,l4⟩
theorem MkW.keptR {w w':World} {lo hi:Nat} {x:Wo} {a b d e:Option Addr} {p q r s:Nat} {lo' hi':Nat} (h:MkW w lo hi x a b d e p q r s) (ho:OnlR lo' hi' w w') (hr:hi≤lo'∨hi'≤lo):MkW w' lo hi x a b d e p q r s:=by
  obtain ⟨⟨h1,h2,h3,h4⟩,l1,l2,l3,l4⟩:=h
  have A:∀ {z:Option Addr},(∀ i,(Value.slice z 0 0).ownBlock=some i→lo≤i∧i<w.heap.size)→Lt hi z→∀ i,(Value.slice z 0 0).ownBlock=some i→i<lo'∨hi'≤i:=fun h k i e=>by have:=h i e;have:=k i e;omega
  exact ⟨⟨h1.keptR ho (A h1.lo' l1),h2.keptR ho (A h2.lo' l2),h3.keptR ho (A h3.lo' l3),h4.keptR ho (A h4.lo' l4)⟩,l1,l2,l3,l4⟩
theorem NewW.below {w w':World} {lo hi:Nat} {x:Wo} {a b d e:Option Addr} {p q r s:Nat} (h:NewW w lo hi x a b d e p q r s) (hb:Below w.heap.size w w'):NewW w' lo hi x a b d e p q r s:=⟨⟨h.1.1.below hb,h.1.2.1.below hb,h.1.2.2.1.below hb,h.1.2.2.2.below hb⟩,h.2⟩
theorem MkW.below {w w':World} {lo hi:Nat} {x:Wo} {a b d e:Option Addr} {p q r s:Nat} (h:MkW w lo hi x a b d e p q r s) (hb:Below w.heap.size w w'):MkW w' lo hi x a b d e p q r s:=⟨⟨h.1.1.below hb,h.1.2.1.below hb,h.1.2.2.1.below hb,h.1.2.2.2.below hb⟩,h.2⟩
theorem New.segS {w:World} {lo n k p:Nat} {a:Option Addr} {f:Nat→Nat→Value} (h:New w lo (.slice a n p) n k f):Seg w w.heap.size a n k f:=by
  obtain ⟨a',cap',e,hs⟩:=h.seg
  simp at e
  obtain ⟨rfl,rfl⟩:=e
  exact hs
theorem NewW.ofW {w w':World} {lo hi:Nat} {x:Wo} {a b d e:Option Addr} {p q r s:Nat} (h:NewW w lo hi x a b d e p q r s) (i:Nat) (ho:OfW a b d e i):lo≤i∧i<hi∧i<w.heap.size:=by
  obtain ⟨⟨h1,h2,h3,h4⟩,l1,l2,l3,l4⟩:=h
  rcases ho with o|o|o|o
  · exact ⟨(h1.lo' i o).1,l1 i o,(h1.lo' i o).2⟩
  · exact ⟨(h2.lo' i o).1,l2 i o,(h2.lo' i o).2⟩
  · exact ⟨(h3.lo' i o).1,l3 i o,(h3.lo' i o).2⟩
  · exact ⟨(h4.lo' i o).1,l4 i o,(h4.lo' i o).2⟩
theorem NewW.seg {w w':World} {lo hi:Nat} {x:Wo} {a b d e:Option Addr} {p q r s:Nat} (h:NewW w lo hi x a b d e p q r s):SegW w w.heap.size x a b d e:=⟨h.1.1.segS,h.1.2.1.segS,h.1.2.2.1.segS,h.1.2.2.2.segS⟩
/-- As the lists lie in a later world. -/
theorem NewW.segAt {w w':World} {lo hi:Nat} {x:Wo} {a b d e:Option Addr} {p q r s:Nat} (h:NewW w lo hi x a b d e p q r s) (hb:Below w.heap.size w w'):SegW w' w'.heap.size x a b d e:=NewW.seg (w':=w') (h.below hb)
theorem Row.newS {w:World} {g n k lo:Nat} {t:TypeId} {f:Nat→Nat→Value} (h:Row w g t n k f) (hl:lo≤g):New w lo (.slice (some ⟨g,0,none⟩) n n) n k f:=.inr ⟨g,_,rfl,hl,h.lie⟩
theorem MadeW.new {w:World} {lo:Nat} {x:Wo} {g1 g2 g3 g4:Nat} (h:MadeW w lo x g1 g2 g3 g4):NewW w lo w.heap.size x (some ⟨g1,0,none⟩) (some ⟨g2,0,none⟩) (some ⟨g3,0,none⟩) (some ⟨g4,0,none⟩) x.ch.cells.length x.ch.words.length x.hands.length x.deals.length∧Apart (some ⟨g1,0,none⟩) (some ⟨g2,0,none⟩) (some ⟨g3,0,none⟩) (some ⟨g4,0,none⟩):=by
  obtain ⟨⟨k1,k2,k3,k4⟩,r1,r2,r3,r4⟩:=h
  have c:∀ {g:Nat} i,(Value.slice (some ⟨g,0,none⟩) 0 0).ownBlock=some i→i=g:=fun i e=>by simp [Value.ownBlock] at e;exact e.symm
  have o:∀ g:Nat,(Value.slice (some ⟨g,0,none⟩) 0 0).ownBlock=some g:=fun g=>rfl
  have n12:=r1.ty r2 (by decide)
  have n13:=r1.ty r3 (by decide)
  have n14:=r1.ty r4 (by decide)
  have n23:=r2.ty r3 (by decide)
  have n24:=r2.ty r4 (by decide)
  have n34:=r3.ty r4 (by decide)
  refine ⟨⟨⟨r1.newS k1,r2.newS k2,r3.newS k3,r4.newS k4⟩,fun i e=>(c i e) ▸ r1.lt,fun i e=>(c i e) ▸ r2.lt,fun i e=>(c i e) ▸ r3.lt,fun i e=>(c i e) ▸ r4.lt⟩,⟨fun i e=>?_,fun i e=>?_,fun i e=>?_⟩⟩
  · obtain rfl:=c i e;exact ⟨fun e2=>n12 (c _ e2),fun e2=>n13 (c _ e2),fun e2=>n14 (c _ e2)⟩
  · obtain rfl:=c i e;exact ⟨fun e2=>n23 (c _ e2),fun e2=>n24 (c _ e2)⟩
  · obtain rfl:=c i e;exact fun e2=>n34 (c _ e2)
theorem own_new {w:World} {lo:Nat} {t:TypeId} {n k:Nat} {v:Value} {xs:List Value} {f:Nat→Nat→Value} (h:w.ownsRow lo t k v n xs) (hl:xs.length=n*k) (hf:∀ i j,i<n→j<k→xs[i*k+j]?=some (f i j)):∃ a p,v=.slice a n p∧New w lo (.slice a n p) n k f:=by
  rcases h.2 with ⟨h1,h0⟩|⟨g,cap,cur,rfl,hlo,hg,h4,h5,h6,h7⟩
  · subst h0;exact ⟨none,0,h1,.inl ⟨rfl,rfl⟩⟩
  · refine ⟨_,_,rfl,.inr ⟨g,cap,rfl,hlo,cur,_,hg,?_,fun i j hi hj=>?_⟩⟩
    · have e:=congrArg List.length h7
      rw [List.length_take,hl] at e
      simp at e;omega
    · have:=h.cells (g:=g) rfl (i*k+j) _ (hf i j hi hj)
      have e2:(⟨g,0,none⟩:Addr).add (i*k+j)=⟨g,i*k+j,none⟩:=by generalize i*k+j=m;by_cases e:m=0 <;> simp [Addr.add,e]
      rw [e2] at this
      simpa [World.cell?,hg] using this
theorem own_apart2 {w:World} {lo lo':Nat} {t t':TypeId} {k k' n n' p p':Nat} {a a':Option Addr} {xs xs':List Value} (h:w.ownsRow lo t k (.slice a n p) n xs) (h':w.ownsRow lo' t' k' (.slice a' n' p') n' xs') (hne:t≠t'):∀ i,(Value.slice a 0 0).ownBlock=some i→(Value.slice a' 0 0).ownBlock≠some i:=by
  intro i e e'
  rcases own_off_ty h h' hne with h0|h0
  · rw [ownBlock_len,e] at h0;cases h0
  · rw [ownBlock_len,ownBlock_len a',e,e'] at h0;exact h0 rfl
theorem WOwn.new {w:World} {lo:Nat} {v1 v2 v3 v4:Value} {x:Wo} (h:WOwn w lo v1 v2 v3 v4 x):∃ a b d e p q r s,v1=.slice a x.ch.cells.length p∧v2=.slice b x.ch.words.length q∧v3=.slice d x.hands.length r∧v4=.slice e x.deals.length s∧NewW w lo w.heap.size x a b d e p q r s∧Apart a b d e:=by
  obtain ⟨h1,h2,h3,h4⟩:=h
  obtain ⟨a,p,rfl,n1⟩:=own_new h1 (flatC_len _) (flatC_get _)
  obtain ⟨b,q,rfl,n2⟩:=own_new (f:=intF x.ch.words) h2 (by simp [ints_len]) (fun i j hi hj=>by (obtain rfl:j=0:=(by omega));simp [ints,intF,List.getD,hi])
  obtain ⟨d,r,rfl,n3⟩:=own_new h3 (flatH_len _) (flatH_get _)
  obtain ⟨e,s,rfl,n4⟩:=own_new h4 (flatD_len _) (flatD_get _)
  exact ⟨a,b,d,e,p,q,r,s,rfl,rfl,rfl,rfl,⟨⟨n1,n2,n3,n4⟩,fun i hi=>(n1.lo' i hi).2,fun i hi=>(n2.lo' i hi).2,fun i hi=>(n3.lo' i hi).2,fun i hi=>(n4.lo' i hi).2⟩,fun i hi=>⟨own_apart2 h1 h2 (by decide) i hi,own_apart2 h1 h3 (by decide) i hi,own_apart2 h1 h4 (by decide) i hi⟩,fun i hi=>⟨own_apart2 h2 h3 (by decide) i hi,own_apart2 h2 h4 (by decide) i hi⟩,fun i hi=>own_apart2 h3 h4 (by decide) i hi⟩
end Go.Proofs.Ytmnpgkcdfielbaa
set_option linter.unusedSimpArgs false
set_option linter.unusedVariables false
namespace Go.Proofs.Ytmnpgkcdfielbaa
open Go.RowKit
set_option linter.unusedSimpArgs false
theorem ap {a b:Option Addr} (h:∀ i,(Value.slice a 0 0).ownBlock=some i→(Value.slice b 0 0).ownBlock≠some i) (n p n' p':Nat):∀ i,(Value.slice a n p).ownBlock=some i→(Value.slice b n' p').ownBlock≠some i:=fun i e=>by rw [ownBlock_len b];exact h i (by rw [← ownBlock_len a n p];exact e)
theorem ap2 {a b:Option Addr} (h:∀ i,(Value.slice a 0 0).ownBlock=some i→(Value.slice b 0 0).ownBlock≠some i) (n p n' p':Nat):∀ i,(Value.slice b n p).ownBlock=some i→(Value.slice a n' p').ownBlock≠some i:=fun i e e2=>ap h n' p' n p i e2 e
theorem own_ap {v v':Value} (h:∀ i,v.ownBlock=some i→v'.ownBlock≠some i):v'.ownBlock=none∨v.ownBlock≠v'.ownBlock:=by
  cases e:v'.ownBlock with
  | none=>exact .inl rfl
  | some i=>exact .inr fun e2=>h i e2 e
set_option maxRecDepth 100000 in
set_option maxHeartbeats 4000000 in
theorem markWorld_any (x:Wo) (a b d e:Option Addr) (p q r s:Nat) (lo hi:Nat) (w:World) (h:NewW w lo hi x a b d e p q r s) (ha:Apart a b d e) (m:LenW x) :
    Calls Try.prog 9 #[.agg #[.int .i64 x.ch.cap,.int .i64 x.ch.sent,.int .i64 x.ch.got,.int .i64 x.ch.fin,.slice a x.ch.cells.length p,.slice b x.ch.words.length q,.slice d x.hands.length r,.slice e x.deals.length s,.int .i64 x.now],.int .i64 1] w fun r' w'=>r'=.returned (.int .i64 (wsum x))∧MkW w' lo hi x a b d e p q r s∧OnlP (OfW a b d e) w w':=by
  have hP0:¬ OfW a b d e w.heap.size:=fun o=>by have:=(NewW.ofW (w':=w) h _ o).2.2;omega
  unfold MkW wsum
  obtain ⟨⟨cap,sent,got,fin,cells,words⟩,hands,deals,now⟩:=x
  obtain ⟨m1,m2,m3,m4⟩:=m
  obtain ⟨⟨h1,h2,h3,h4⟩,l1,l2,l3,l4⟩:=h
  simp only at *
  obtain ⟨k1,e1⟩:∃ k:Int,k=1+3*(cells.length:Int):=⟨_,rfl⟩
  obtain ⟨k2,e2⟩:∃ k:Int,k=k1+words.length:=⟨_,rfl⟩
  obtain ⟨k3,e3⟩:∃ k:Int,k=k2+14*hands.length:=⟨_,rfl⟩
  rw [← e1,← e2,← e3]
  have b1:0≤k2∧k2≤1099511627776:=by omega
  have b2:0≤k3∧k3≤1099511627776:=by omega
  have H1:=Lib.hid h1
  have H2:=Lib.hid h2
  have H3:=Lib.hid h3
  have H4:=Lib.hid h4
  have L1:=Lib.hid l1
  have L2:=Lib.hid l2
  have L3:=Lib.hid l3
  have L4:=Lib.hid l4
  have HA:=Lib.hid ha
  have E1:=Lib.hid e1
  have E2:=Lib.hid e2
  have E3:=Lib.hid e3
  clear h1 h2 h3 h4 l1 l2 l3 l4 ha e1 e2 e3
  go_enter Try.func9,Try.ntmps9
  go_wp2_with fail
  refine (markChan_any cells.length words.length (cellF cells) (intF words) cap sent got fin lo lo _ _ 1 k1 _ (H1.out.below (by exact zB)) (H2.out.below (by exact zB)) (ap (fun i e=>(HA.out.1 i e).1) _ _ _ _) (by omega) (by omega) E1.out m1 m2).mono ?_
  rintro _ w1 ⟨rfl,N1,N2,hO⟩
  rw [← E2.out]
  have R1:OnlP (OfW a b d e) _ w1:=OnlP.of_onl hO (fun i e=>.inl (by rw [← ownBlock_len a cells.length p];exact e)) (fun i e=>.inr (.inl (by rw [← ownBlock_len b words.length q];exact e)))
  have hs1:=R1.2.2.2.1
  try simp at hs1
  have:=fun o=>R1.cell (i:=w.heap.size) (by simp) hP0 o
  have N3:=((H3.out).below (w1:=w.alloc (.cells #[.int .i64 cap,.int .i64 sent,.int .i64 got,.int .i64 fin,.slice a cells.length p,.slice b words.length q,.slice d hands.length r,.slice e deals.length s,.int .i64 now] 37)) (by exact zB)).keptO hO (ap2 (fun i e=>(HA.out.1 i e).2.1) _ _ _ _) (ap2 (fun i e=>(HA.out.2.1 i e).1) _ _ _ _)
  have N4:=((H4.out).below (w1:=w.alloc (.cells #[.int .i64 cap,.int .i64 sent,.int .i64 got,.int .i64 fin,.slice a cells.length p,.slice b words.length q,.slice d hands.length r,.slice e deals.length s,.int .i64 now] 37)) (by exact zB)).keptO hO (ap2 (fun i e=>(HA.out.1 i e).2.2) _ _ _ _) (ap2 (fun i e=>(HA.out.2.1 i e).2) _ _ _ _)
  have RW:=Lib.hid ((OnlP.of_below (P:=OfW a b d e) (by exact zB:Below w.heap.size w (w.alloc (.cells #[.int .i64 cap,.int .i64 sent,.int .i64 got,.int .i64 fin,.slice a cells.length p,.slice b words.length q,.slice d hands.length r,.slice e deals.length s,.int .i64 now] 37)))).trans R1)
  have M1:Hid (New w1 lo (.slice a cells.length p) cells.length 3 (cellF (marksC 1 cells.length))):=Lib.hid (by have z:=N1;unfold NewC at z;rw [marksC_len] at z;exact z)
  have M2:Hid (New w1 lo (.slice b words.length q) words.length 1 (intF (marksI k1 words.length))):=Lib.hid (by have z:=N2;unfold NewI at z;rw [marksI_len] at z;exact z)
  have M3:=Lib.hid N3
  have M4:=Lib.hid N4
  clear N1 N2 N3 N4 hO R1
  go_wp2_with fail
  refine (markHandS_any hands.length _ lo _ k2 _ M3.out b1.1 b1.2 m3).mono ?_
  rintro _ w2 ⟨rfl,N3,hg⟩
  rw [← E3.out]
  have R2:OnlP (OfW a b d e) _ w2:=OnlP.of_grown hg (fun i e=>.inr (.inr (.inl (by rw [← ownBlock_len d hands.length r];exact e))))
  have hs2:=R2.2.2.2.1
  try simp at hs2
  have:=fun o=>R2.cell (i:=w.heap.size) (by omega) hP0 o
  have P1:=Lib.hid (M1.out.kept hg (own_ap (ap (fun i e=>(HA.out.1 i e).2.1) _ _ _ _)))
  have P2:=Lib.hid (M2.out.kept hg (own_ap (ap (fun i e=>(HA.out.2.1 i e).1) _ _ _ _)))
  have P3:=Lib.hid N3
  have P4:=Lib.hid (M4.out.kept hg (own_ap (ap2 (HA.out.2.2) _ _ _ _)))
  have RV:=Lib.hid (RW.out.trans R2)
  clear N3 hg R2 M1 M2 M3 M4 RW
  go_wp2_with fail
  refine (markDealS_any deals.length _ lo _ k3 _ P4.out b2.1 b2.2 m4).mono ?_
  rintro _ w3 ⟨rfl,N4,hg⟩
  have R3:OnlP (OfW a b d e) _ w3:=OnlP.of_grown hg (fun i e'=>.inr (.inr (.inr (by rw [← ownBlock_len e deals.length s];exact e'))))
  have hs3:=R3.2.2.2.1
  have:=fun o=>R3.cell (i:=w.heap.size) (by omega) hP0 o
  have Q1:=Lib.hid (P1.out.kept hg (own_ap (ap (fun i e=>(HA.out.1 i e).2.2) _ _ _ _)))
  have Q2:=Lib.hid (P2.out.kept hg (own_ap (ap (fun i e=>(HA.out.2.1 i e).2) _ _ _ _)))
  have Q3:=Lib.hid (P3.out.kept hg (own_ap (ap (HA.out.2.2) _ _ _ _)))
  have Q4:=Lib.hid N4
  have RU:=Lib.hid (RV.out.trans R3)
  clear N4 hg R3 P1 P2 P3 P4 RV
  go_wp2
  go_ret
  exact ⟨rfl,⟨⟨Q1.out,Q2.out,Q3.out,Q4.out⟩,L1.out,L2.out,L3.out,L4.out⟩,RU.out⟩
set_option maxRecDepth 100000 in
set_option maxHeartbeats 4000000 in
theorem heldWorld_any (x:Wo) (a b d e:Option Addr) (p q r s:Nat) (lo hi:Nat) (w:World) (h:MkW w lo hi x a b d e p q r s) (m:LenW x) :
    Calls Try.prog 10 #[.agg #[.int .i64 x.ch.cap,.int .i64 x.ch.sent,.int .i64 x.ch.got,.int .i64 x.ch.fin,.slice a x.ch.cells.length p,.slice b x.ch.words.length q,.slice d x.hands.length r,.slice e x.deals.length s,.int .i64 x.now],.int .i64 1] w fun r' w'=>r'=.returned (.int .i64 (wsum x))∧Below w.heap.size w w':=by
  unfold MkW at h
  unfold wsum
  obtain ⟨⟨cap,sent,got,fin,cells,words⟩,hands,deals,now⟩:=x
  obtain ⟨m1,m2,m3,m4⟩:=m
  obtain ⟨⟨h1,h2,h3,h4⟩,l1,l2,l3,l4⟩:=h
  simp only at *
  obtain ⟨k1,e1⟩:∃ k:Int,k=1+3*(cells.length:Int):=⟨_,rfl⟩
  obtain ⟨k2,e2⟩:∃ k:Int,k=k1+words.length:=⟨_,rfl⟩
  obtain ⟨k3,e3⟩:∃ k:Int,k=k2+14*hands.length:=⟨_,rfl⟩
  obtain ⟨k4,e4⟩:∃ k:Int,k=k3+7*deals.length:=⟨_,rfl⟩
  rw [← e1] at h2
  rw [← e1,← e2] at h3
  rw [← e1,← e2,← e3] at h4
  rw [← e1,← e2,← e3,← e4]
  have b1:0≤k2∧k2≤1099511627776:=by omega
  have b2:0≤k3∧k3≤1099511627776:=by omega
  have c2:¬ k2<0:=by omega
  have c3:¬ k3<0:=by omega
  have c4:¬ k4<0:=by omega
  have H1:Hid (NewC w lo (.slice a cells.length p) (marksC 1 cells.length)):=Lib.hid (by unfold NewC;rw [marksC_len];exact h1)
  have H2:Hid (NewI w lo (.slice b words.length q) (marksI k1 words.length)):=Lib.hid (by unfold NewI;rw [marksI_len];exact h2)
  have H3:=Lib.hid h3
  have H4:=Lib.hid h4
  have E1:=Lib.hid e1
  have E2:=Lib.hid e2
  have E3:=Lib.hid e3
  have E4:=Lib.hid e4
  clear h1 h2 h3 h4 e1 e2 e3 e4 l1 l2 l3 l4
  go_enter Try.func10,Try.ntmps10
  go_wp2_with fail
  refine (heldChan_any cells.length words.length cap sent got fin lo lo _ _ 1 k1 _ (H1.out.below (by exact zB)) (H2.out.below (by exact zB)) (by omega) (by omega) E1.out m1 m2).mono ?_
  rintro _ w1 ⟨rfl,hb1⟩
  rw [← E2.out]
  have hB1:Below w.heap.size w w1:=bT (by exact zB) hb1
  have hs1:=hb1.size
  try simp at hs1
  have:=fun o=>hb1.cell (p:=⟨w.heap.size,o,none⟩) (by simp)
  clear hb1
  go_wp2_with fail
  refine (heldHandS_any hands.length lo _ k2 _ (H3.out.below (by exact zB)) b1.1 b1.2 m3).mono ?_
  rintro _ w2 ⟨rfl,hb2⟩
  rw [← E3.out]
  have hB2:Below w.heap.size w w2:=bT (by exact zB) hb2
  have hs2:=hb2.size
  try simp at hs2
  have:=fun o=>hb2.cell (p:=⟨w.heap.size,o,none⟩) (by (try simp);(try omega))
  clear hb2
  go_wp2_with fail
  refine (heldDealS_any deals.length lo _ k3 _ (H4.out.below (by exact zB)) b2.1 b2.2 m4).mono ?_
  rintro _ w3 ⟨rfl,hb3⟩
  rw [← E4.out]
  have hB3:Below w.heap.size w w3:=bT (by exact zB) hb3
  clear hb3
  go_wp2
  go_ret
  exact ⟨rfl,hB3⟩
end Go.Proofs.Ytmnpgkcdfielbaa
set_option linter.unusedSimpArgs false
set_option linter.unusedVariables false
namespace Go.Proofs.Ytmnpgkcdfielbaa
open Go.RowKit
def upd {α:Type} (f:Nat→α) (k:Nat) (v:α):Nat→α:=fun j=>cond (Nat.beq j k) v (f j)
theorem upd_at {α:Type} (f:Nat→α) (k j:Nat) (v:α):upd f k v j=if j=k then v else f j:=by
  unfold upd
  by_cases h:j=k
  · subst h;simp
  · have:Nat.beq j k=false:=by cases hb:Nat.beq j k with
      | false=>rfl
      | true=>exact absurd (Nat.eq_of_beq_eq_true hb) h
    simp [this,h]
theorem nU {b:Bool} {P:Prop} (e:b=false) (h:b=true):P:=by rw [e] at h;cases h
def fillA (t:Array Value):List Nat→(Nat→Value)→Array Value
  | [],_=>t
  | d :: ds,s=>(fillA t ds s).setIfInBounds d (s d)
def fill (a:Act) (ds:List Nat) (s:Nat→Value):Act:=⟨fillA a.tmps ds s,a.defers⟩
theorem fillA_size (t:Array Value) (ds:List Nat) (s:Nat→Value):(fillA t ds s).size=t.size:=by
  induction ds with
  | nil=>rfl
  | cons d ds ih=>simp [fillA,ih]
theorem fillA_get (t:Array Value) (ds:List Nat) (s:Nat→Value) (k:Nat):(fillA t ds s)[k]?=if k ∈ ds then (t[k]?).map (fun _=>s k) else t[k]?:=by
  induction ds with
  | nil=>simp [fillA]
  | cons d ds ih =>
    simp only [fillA,Array.getElem?_setIfInBounds,fillA_size]
    by_cases h:d=k
    · subst h
      by_cases hl:d<t.size
      · simp [hl]
      · simp [hl]
    · have h2:¬ k=d:=fun e=>h e.symm
      simp only [h,if_false,List.mem_cons,h2,false_or]
      exact ih
theorem fill_self (a:Act) (ds:List Nat):fill a ds (fun k=>a.tmps.getD k undef)=a:=by
  unfold fill
  have:fillA a.tmps ds (fun k=>a.tmps.getD k undef)=a.tmps:=by
    apply Array.ext_getElem?
    intro k
    rw [fillA_get]
    by_cases hl:k<a.tmps.size
    · simp [hl]
    · simp [hl]
  rw [this]
/-- How many have not come up yet. -/
def left (l:Nat→Bool):Nat→Nat
  | 0=>0
  | n+1=>left l n+cond (l n) 0 1
theorem left_far (l:Nat→Bool) (i n:Nat) (h:n≤i):left (upd l i true) n=left l n:=by
  induction n with
  | zero=>rfl
  | succ n ih =>
    have:upd l i true n=l n:=by rw [upd_at,if_neg (by omega)]
    simp [left,ih (by omega),this]
theorem left_upd (l:Nat→Bool) (i n:Nat) (h:i<n) (hi:l i=false):left (upd l i true) n+1=left l n:=by
  induction n with
  | zero=>omega
  | succ n ih =>
    by_cases e:i=n
    · subst e
      have:upd l i true i=true:=by rw [upd_at,if_pos rfl]
      simp [left,left_far l i i (Nat.le_refl _),this,hi]
    · have:upd l i true n=l n:=by rw [upd_at,if_neg (by omega)]
      have:=ih (by omega)
      simp only [left, *]
      omega
theorem left_zero (l:Nat→Bool) (n:Nat) (h:left l n=0):∀ i,i<n→l i=true:=by
  induction n with
  | zero=>intro i hi;omega
  | succ n ih =>
    intro i hi
    simp only [left] at h
    by_cases e:i=n
    · subst e
      cases hl:l i with
      | true=>rfl
      | false=>simp [hl] at h
    · exact ih (by omega) i (by omega)
/-- The lists of what must have come up before each, held against the region: each waits for earlier ones alone, and each that is listed is waited for, or one that is waited for waits for it. -/
def waitsOk (T:List (List Nat)):Nat→List Oper→Bool
  | _,[]=>true
  | i,o :: os=>(o.after.toList.all fun e=>!Region.binds .any e || Nat.blt e.on i) && ((T.getD i []).all fun t=>o.after.toList.any fun e=>Region.binds .any e && (Nat.beq e.on t || (T.getD e.on []).any fun u=>Nat.beq u t)) && waitsOk T (i+1) os
theorem waitsOk_at {T:List (List Nat)} {j:Nat} {o:Oper}:∀ (os:List Oper) (i:Nat),waitsOk T i os=true→os[j]?=some o →
    (∀ e ∈ o.after,Region.binds .any e=true→e.on<i+j)∧∀ t ∈ T.getD (i+j) [],∃ e ∈ o.after,Region.binds .any e=true∧(e.on=t∨t ∈ T.getD e.on []):=by
  induction j with
  | zero =>
    intro os i h ho
    cases os with
    | nil=>simp at ho
    | cons p os =>
      simp at ho
      subst ho
      simp only [waitsOk,Bool.and_eq_true] at h
      obtain ⟨⟨h1,h2⟩,_⟩:=h
      refine ⟨fun e he hb=>?_,fun t ht=>?_⟩
      · have:=List.all_eq_true.1 h1 e (by simpa using he)
        simp [hb] at this
        simpa [Nat.blt_eq] using this
      · have:=List.all_eq_true.1 h2 t (by simpa using ht)
        obtain ⟨e,he,h3⟩:=List.any_eq_true.1 this
        simp only [Bool.and_eq_true,Bool.or_eq_true] at h3
        refine ⟨e,by simpa using he,h3.1,?_⟩
        rcases h3.2 with h4|h4
        · exact .inl (Nat.eq_of_beq_eq_true h4)
        · obtain ⟨u,hu,h5⟩:=List.any_eq_true.1 h4
          exact .inr ((Nat.eq_of_beq_eq_true h5) ▸ hu)
  | succ j ih =>
    intro os i h ho
    cases os with
    | nil=>simp at ho
    | cons p os =>
      simp at ho
      simp only [waitsOk,Bool.and_eq_true] at h
      have:=ih os (i+1) h.2 ho
      rw [show i+(j+1)=i+1+j by omega]
      exact this
section
variable {P:Program} {ops:Array Oper} {Q:Exit→Act→World→Prop}
/-- One operation, whatever came up before it. -/
def StepAt (P:Program) (ops:Array Oper) (Q:Exit→Act→World→Prop) (T:List (List Nat)) (F:(Nat→Value)→Act) (Φ:(Nat→Bool)→(Nat→Value)→World→Prop) (i:Nat) (o:Oper):Prop :=
  ∀ (l:Nat→Bool) (s:Nat→Value) (w:World),l i=false→(∀ t,(T.getD i []).any (Nat.beq t)=true→l t=true)→(∀ j,(T.getD j []).any (Nat.beq i)=true→l j=false)→Φ l s w →
    ∀ K':Act→World→Prop,Shut (∀ s' a' w',a'=F s'→Φ (upd l i true) s' w'→K' a' w')→if Region.wanted o (yielded ops (F s).tmps)=true then Oper.wp P o (F s) w K' Q else K' ((F s).put o.dst undef) w
def Steps (P:Program) (ops:Array Oper) (Q:Exit→Act→World→Prop) (T:List (List Nat)) (F:(Nat→Value)→Act) (Φ:(Nat→Bool)→(Nat→Value)→World→Prop):Nat→List Oper→Prop
  | _,[]=>True
  | i,o :: os=>StepAt P ops Q T F Φ i o∧Steps P ops Q T F Φ (i+1) os
theorem Steps.at {T:List (List Nat)} {F:(Nat→Value)→Act} {Φ:(Nat→Bool)→(Nat→Value)→World→Prop} {j:Nat} {o:Oper}:∀ (os:List Oper) (i:Nat),Steps P ops Q T F Φ i os→os[j]?=some o→StepAt P ops Q T F Φ (i+j) o:=by
  induction j with
  | zero =>
    intro os i h ho
    cases os with
    | nil=>simp at ho
    | cons p os=>simp at ho;subst ho;exact h.1
  | succ j ih =>
    intro os i h ho
    cases os with
    | nil=>simp at ho
    | cons p os =>
      simp at ho
      have:=ih os (i+1) h.2 ho
      rw [show i+(j+1)=i+1+j by omega]
      exact this
theorem any_beq {L:List Nat} {t:Nat}:L.any (Nat.beq t)=true↔t ∈ L:=by
  rw [List.any_eq_true]
  constructor
  · rintro ⟨x,hx,he⟩
    exact (Nat.eq_of_beq_eq_true he) ▸ hx
  · intro h
    exact ⟨t,h,by simp⟩
theorem wpAny_inv {T:List (List Nat)} {F:(Nat→Value)→Act} {Φ:(Nat→Bool)→(Nat→Value)→World→Prop} (hT:waitsOk T 0 ops.toList=true) (hTl:Nat.ble T.length ops.size=true) (steps:Steps P ops Q T F Φ 0 ops.toList)
    (fin:∀ (l:Nat→Bool) (s:Nat→Value) (w:World),(∀ i,Nat.blt i ops.size=true→l i=true)→Φ l s w→Q .normal (F s) w) :
    ∀ (fuel:Nat) (listed:Array Bool) (l:Nat→Bool) (s:Nat→Value) (w:World),listed.size=ops.size→(∀ i,i<ops.size→listed[i]?=some (l i))→left l ops.size≤fuel →
      (∀ i e o,ops[i]?=some o→e ∈ o.after→Region.binds .any e=true→l i=true→l e.on=true)→Φ l s w→wpAny P .any ops Q fuel listed (F s) w:=by
  have W:∀ i o,ops[i]?=some o→(∀ e ∈ o.after,Region.binds .any e=true→e.on<i)∧∀ t ∈ T.getD i [],∃ e ∈ o.after,Region.binds .any e=true∧(e.on=t∨t ∈ T.getD e.on []):=by
    intro i o ho
    have:=waitsOk_at (j:=i) ops.toList 0 hT (by simpa using ho)
    simpa using this
  have up:∀ (l:Nat→Bool),(∀ i e o,ops[i]?=some o→e ∈ o.after→Region.binds .any e=true→l i=true→l e.on=true)→∀ n i,i<n→i<ops.size→l i=true→∀ t ∈ T.getD i [],l t=true:=by
    intro l hc n
    induction n with
    | zero=>intro i hi;omega
    | succ n ih =>
      intro i hi hs hl t ht
      have ho:ops[i]?=some ops[i]:=by simp [hs]
      obtain ⟨e,he,hb,h3⟩:=(W i _ ho).2 t ht
      have h1:=hc i e _ ho he hb hl
      have h2:=(W i _ ho).1 e he hb
      rcases h3 with h3|h3
      · exact h3 ▸ h1
      · exact ih e.on (by omega) (by omega) h1 t h3
  have all:∀ (listed:Array Bool) (l:Nat→Bool),listed.size=ops.size→(∀ i,i<ops.size→listed[i]?=some (l i))→Region.ready .any ops listed=[]→∀ n i,i<n→i<ops.size→l i=true:=by
    intro listed l hsz hl hr n
    induction n with
    | zero=>intro i hi;omega
    | succ n ih =>
      intro i hi hs
      cases hli:l i with
      | true=>rfl
      | false =>
        have ho:ops[i]?=some ops[i]:=by simp [hs]
        have hm:i ∈ Region.ready .any ops listed:=mem_ready.2 ⟨by simp [Array.getD_eq_getD_getElem?,hl i hs,hli],_,ho,fun e he hb=>by
          have h2:=(W i _ ho).1 e he hb
          have h3:=ih e.on (by omega) (by omega)
          simp [Array.getD_eq_getD_getElem?,hl e.on (by omega),h3]⟩
        rw [hr] at hm
        cases hm
  intro fuel
  induction fuel with
  | zero =>
    intro listed l s w hsz hl hf hc hΦ
    have h0:=left_zero l ops.size (by omega)
    refine ⟨?_,fin l s w (fun i hi=>h0 i (by simpa [Nat.blt_eq] using hi)) hΦ⟩
    apply List.eq_nil_iff_forall_not_mem.2
    intro i hi
    obtain ⟨h1,o,ho,_⟩:=mem_ready.1 hi
    have hs:i<ops.size:=(Array.getElem?_eq_some_iff.1 ho).1
    rw [Array.getD_eq_getD_getElem?,hl i hs,h0 i hs] at h1
    cases h1
  | succ fuel ih =>
    intro listed l s w hsz hl hf hc hΦ
    refine ⟨fun hr=>fin l s w (fun i hi=>all listed l hsz hl hr (i+1) i (by omega) (by simpa [Nat.blt_eq] using hi)) hΦ,fun i hi=>?_⟩
    obtain ⟨h1,o,ho,hall⟩:=mem_ready.1 hi
    have hs:i<ops.size:=(Array.getElem?_eq_some_iff.1 ho).1
    have hli:l i=false:=by
      rw [Array.getD_eq_getD_getElem?,hl i hs] at h1
      simpa using h1
    have hd:∀ e ∈ o.after,Region.binds .any e=true→l e.on=true:=fun e he hb=>by
      have h2:=hall e he hb
      have h3:=(W i o ho).1 e he hb
      rw [Array.getD_eq_getD_getElem?,hl e.on (by omega)] at h2
      simpa using h2
    have hst:=Steps.at (j:=i) ops.toList 0 steps (by simpa using ho)
    rw [Nat.zero_add] at hst
    refine wpOp_step ho fun K' hK=>hst l s w hli (fun t ht=>?_) (fun j hj=>?_) hΦ K' (fun s' a' w' ea hΦ'=>hK _ _ ?_)
    · obtain ⟨e,he,hb,h3⟩:=(W i o ho).2 t (any_beq.1 ht)
      rcases h3 with h3|h3
      · exact h3 ▸ hd e he hb
      · exact up l hc (e.on+1) e.on (by omega) (by have:=(W i o ho).1 e he hb;omega) (hd e he hb) t h3
    · have hj2:=any_beq.1 hj
      cases hlj:l j with
      | false=>rfl
      | true =>
        by_cases hjs:j<ops.size
        · have:=up l hc (j+1) j (by omega) hjs hlj i hj2
          rw [hli] at this
          cases this
        · have h5:=Nat.le_of_ble_eq_true hTl
          simp [List.getD_eq_getElem?_getD,List.getElem?_eq_none (show T.length≤j by omega)] at hj2
    · subst ea
      refine ih _ (upd l i true) s' w' (by simpa using hsz) (fun k hk=>?_) (by have:=left_upd l i ops.size hs hli;omega) (fun k e o2 ho2 he hb hk=>?_) hΦ'
      · rw [Array.getElem?_setIfInBounds,upd_at,hl k hk]
        by_cases e:i=k
        · subst e;simp [hsz,hs]
        · have e2:¬ k=i:=fun x=>e x.symm
          simp [e,e2]
      · rw [upd_at] at hk ⊢
        by_cases e1:e.on=i
        · simp [e1]
        · rw [if_neg e1]
          by_cases e2:k=i
          · subst e2
            rw [ho] at ho2
            obtain rfl:=Option.some.inj ho2
            exact hd e he hb
          · rw [if_neg e2] at hk
            exact hc k e o2 ho2 he hb hk
/-- A drawn region: the frame F by what lies in the slots, the invariant Φ by what has come up. -/
theorem wp_region_inv {id:Nat} {a:Act} {w:World} (T:List (List Nat)) (ds:List Nat) (Φ:(Nat→Bool)→(Nat→Value)→World→Prop) {F:(Nat→Value)→Act} (hm:P.follows .mixedOrders=true) (hT:waitsOk T 0 ops.toList=true) (hTl:Nat.ble T.length ops.size=true)
    (hF:∀ s,fill a ds s=F s) (h0:∀ s,Φ (fun _=>false) s w.drew) (steps:Steps P ops Q T F Φ 0 ops.toList)
    (fin:∀ (l:Nat→Bool) (s:Nat→Value) (w:World),(∀ i,Nat.blt i ops.size=true→l i=true)→Φ l s w→Q .normal (F s) w):(Code.region id ops true).wp P Q a w:=by
  refine wp_region_any hm ?_
  have:=wpAny_inv hT hTl steps fin ops.size (Array.replicate ops.size false) (fun _=>false) (fun k=>a.tmps.getD k undef) w.drew (by simp) (fun i hi=>by simp [hi]) (by
    generalize ops.size=n
    induction n with
    | zero=>simp [left]
    | succ n ih=>simp [left];exact ih) (fun i e o _ _ _ h=>by cases h) (h0 _)
  rw [← hF,fill_self] at this
  exact this
end
end Go.Proofs.Ytmnpgkcdfielbaa
