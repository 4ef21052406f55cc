/-
  Worlds whose lists lie in a range of blocks of the call's own; the laws' helpers that write numbers into them and look for them; lists of at most 1048576 elements.
-/
import Derived.Test.YtffhjmepfojhnaaGreatP17
import Derived.Test.YtffhjmepfojhnaaGreatP20
import Derived.Test.YtffhjmepfojhnaaGreatP05
import Derived.Test.YtffhjmepfojhnaaGreatP18
import Derived.Test.YtffhjmepfojhnaaGreatP08
set_option maxRecDepth 100000
set_option maxHeartbeats 4000000
set_option linter.unusedSimpArgs false
set_option linter.unusedVariables false
namespace Go.Proofs.YtffhjmepfojhnaaGreat
section
open Go.RowKit
def jV (lo hi:Nat) (w w':World):Prop:=w'.os=w.os∧w'.tape=w.tape∧w'.output=w.output∧w.heap.size≤w'.heap.size∧∀ i,i<w.heap.size→(i<lo∨hi≤i)→w'.heap[i]?=w.heap[i]?
theorem jV.below {lo hi:Nat} {w W W':World} {B:Nat} (h:Below B w W) (k:jV lo hi W W') (hB:B≤lo) (hs:B≤W.heap.size):Below B w W':=⟨k.1.trans h.os,k.2.1.trans h.tape,k.2.2.1.trans h.output,Nat.le_trans h.size k.2.2.2.1,fun i hi=>(k.2.2.2.2 i (Nat.lt_of_lt_of_le hi hs) (.inl (Nat.lt_of_lt_of_le hi hB))).trans (h.block i hi)⟩
theorem jV.cell {lo hi:Nat} {w w':World} (k:jV lo hi w w') {i:Nat} (h:i<w.heap.size) (hr:i<lo∨hi≤i) (o:Nat):w'.cell? ⟨i,o,none⟩=w.cell? ⟨i,o,none⟩:=World.cell?_of_block (k.2.2.2.2 i h hr)
theorem jV.frozen {lo hi:Nat} {w w':World} (k:jV lo hi w w') {i:Nat} (h:i<w.heap.size) (hr:i<lo∨hi≤i) (o:Nat):w'.frozen? ⟨i,o,none⟩=w.frozen? ⟨i,o,none⟩:=by
 unfold World.frozen?
 rw [k.2.2.2.2 i h hr]
theorem jV.trans {lo hi:Nat} {w W w':World} (h:jV lo hi w W) (k:jV lo hi W w'):jV lo hi w w':=⟨k.1.trans h.1,k.2.1.trans h.2.1,k.2.2.1.trans h.2.2.1,Nat.le_trans h.2.2.2.1 k.2.2.2.1,fun i hi hr=>(k.2.2.2.2 i (Nat.lt_of_lt_of_le hi h.2.2.2.1) hr).trans (h.2.2.2.2 i hi hr)⟩
theorem jV.of_below {lo hi:Nat} {w w':World} (h:Below w.heap.size w w'):jV lo hi w w':=⟨h.os,h.tape,h.output,h.size,fun i hi _=>h.block i hi⟩
theorem jV.of_grown {lo hi:Nat} {w w':World} {v:Value} (h:w.grownBy w' v.ownBlock) (hr:∀ i,v.ownBlock=some i→lo≤i∧i<hi):jV lo hi w w':=⟨h.os,h.tape,h.output,h.size,fun i hi hn=>h.block i hi fun e=>by have:=hr i e.symm;omega⟩
theorem jV.of_onl {lo hi:Nat} {w w':World} {v v':Value} (h:gV v.ownBlock v'.ownBlock w w') (hr:∀ i,v.ownBlock=some i→lo≤i∧i<hi) (hr':∀ i,v'.ownBlock=some i→lo≤i∧i<hi):jV lo hi w w':=⟨h.1,h.2.1,h.2.2.1,h.2.2.2.1,fun i hi hn=>h.2.2.2.2 i hi (fun e=>by have:=hr i e.symm;omega) (fun e=>by have:=hr' i e.symm;omega)⟩
def jk (P:Nat→Prop) (w w':World):Prop:=w'.os=w.os∧w'.tape=w.tape∧w'.output=w.output∧w.heap.size≤w'.heap.size∧∀ i,i<w.heap.size→¬ P i→w'.heap[i]?=w.heap[i]?
theorem jk.cell {P:Nat→Prop} {w w':World} (k:jk P w w') {i:Nat} (h:i<w.heap.size) (hr:¬ P i) (o:Nat):w'.cell? ⟨i,o,none⟩=w.cell? ⟨i,o,none⟩:=World.cell?_of_block (k.2.2.2.2 i h hr)
theorem jk.trans {P:Nat→Prop} {w W w':World} (h:jk P w W) (k:jk P W w'):jk P w w':=⟨k.1.trans h.1,k.2.1.trans h.2.1,k.2.2.1.trans h.2.2.1,Nat.le_trans h.2.2.2.1 k.2.2.2.1,fun i hi hr=>(k.2.2.2.2 i (Nat.lt_of_lt_of_le hi h.2.2.2.1) hr).trans (h.2.2.2.2 i hi hr)⟩
theorem jk.of_below {P:Nat→Prop} {w w':World} (h:Below w.heap.size w w'):jk P w w':=⟨h.os,h.tape,h.output,h.size,fun i hi _=>h.block i hi⟩
theorem jk.of_grown {P:Nat→Prop} {w w':World} {v:Value} (h:w.grownBy w' v.ownBlock) (hr:∀ i,v.ownBlock=some i→P i):jk P w w':=⟨h.os,h.tape,h.output,h.size,fun i hi hn=>h.block i hi fun e=>hn (hr i e.symm)⟩
theorem jk.of_onl {P:Nat→Prop} {w w':World} {v v':Value} (h:gV v.ownBlock v'.ownBlock w w') (hr:∀ i,v.ownBlock=some i→P i) (hr':∀ i,v'.ownBlock=some i→P i):jk P w w':=⟨h.1,h.2.1,h.2.2.1,h.2.2.2.1,fun i hi hn=>h.2.2.2.2 i hi (fun e=>hn (hr i e.symm)) (fun e=>hn (hr' i e.symm))⟩
theorem jk.toR {P:Nat→Prop} {lo hi:Nat} {w w':World} (h:jk P w w') (hP:∀ i,P i→lo≤i∧i<hi):jV lo hi w w':=⟨h.1,h.2.1,h.2.2.1,h.2.2.2.1,fun i hi hn=>h.2.2.2.2 i hi fun e=>by have:=hP i e;omega⟩
def Mf (a b d e:Option Addr) (i:Nat):Prop:=(Value.slice a 0 0).ownBlock=some i∨(Value.slice b 0 0).ownBlock=some i∨(Value.slice d 0 0).ownBlock=some i∨(Value.slice e 0 0).ownBlock=some i
def Lt (hi:Nat) (a:Option Addr):Prop:=∀ i,(Value.slice a 0 0).ownBlock=some i→i<hi
theorem eO (a:Option Addr) (n p:Nat):(Value.slice a n p).ownBlock=(Value.slice a 0 0).ownBlock:=by rcases a with _|⟨i,_|o,k⟩ <;> rfl
theorem New.keptR {w w':World} {lo lo' hi' n k p:Nat} {a:Option Addr} {f:Nat→Nat→Value} (h:New w lo (.slice a n p) n k f) (ho:jV lo' hi' w w') (hr:(∀ i,(Value.slice a 0 0).ownBlock=some i→i<lo'∨hi'≤i)):New w' lo (.slice a n p) n k f:=by
 rcases h with h|⟨g,cap,e,h3,h4⟩
 ·exact .inl h
 ·refine .inr ⟨g,cap,e,h3,h4.of_block (ho.2.2.2.2 g h4.lt (hr g ?_))⟩
  simp at e
  rw [e.1];rfl
def mF (w:World) (lo hi:Nat) (x:Wo) (a b d e:Option Addr) (p q r s:Nat):Prop:=(New w lo (.slice a x.ch.cells.length p) x.ch.cells.length 3 (eT x.ch.cells)∧New w lo (.slice b x.ch.words.length q) x.ch.words.length 1 (fP x.ch.words)∧New w lo (.slice d x.hands.length r) x.hands.length 14 (gB x.hands)∧New w lo (.slice e x.deals.length s) x.deals.length 7 (l7 x.deals))∧(Lt hi a∧Lt hi b∧Lt hi d∧Lt hi e)
def LD (w:World) (lo hi:Nat) (x:Wo) (a b d e:Option Addr) (p q r s:Nat):Prop:=(New w lo (.slice a x.ch.cells.length p) x.ch.cells.length 3 (eT (lX 1 x.ch.cells.length))∧New w lo (.slice b x.ch.words.length q) x.ch.words.length 1 (fP (kV (1+3*(x.ch.cells.length:Int)) x.ch.words.length))∧New w lo (.slice d x.hands.length r) x.hands.length 14 (uL 14 (1+3*(x.ch.cells.length:Int)+x.ch.words.length))∧New w lo (.slice e x.deals.length s) x.deals.length 7 (uL 7 (1+3*(x.ch.cells.length:Int)+x.ch.words.length+14*x.hands.length)))∧(Lt hi a∧Lt hi b∧Lt hi d∧Lt hi e)
def Apart (a b d e:Option Addr):Prop:=(∀ i,(Value.slice a 0 0).ownBlock=some i→(Value.slice b 0 0).ownBlock≠some i∧(Value.slice d 0 0).ownBlock≠some i∧(Value.slice e 0 0).ownBlock≠some i)∧(∀ i,(Value.slice b 0 0).ownBlock=some i→(Value.slice d 0 0).ownBlock≠some i∧(Value.slice e 0 0).ownBlock≠some i)∧(∀ i,(Value.slice d 0 0).ownBlock=some i→(Value.slice e 0 0).ownBlock≠some i)
def Lb (x:Wo):Int:=1+3*(x.ch.cells.length:Int)+x.ch.words.length+14*x.hands.length+7*x.deals.length
theorem New.lo' {w:World} {lo n k p:Nat} {a:Option Addr} {f:Nat→Nat→Value} (h:New w lo (.slice a n p) n k f):∀ i,(Value.slice a 0 0).ownBlock=some i→lo≤i∧i<w.heap.size:=fun i hi=>h.lt (by rw [eO];exact hi)
theorem mF.keptR {w w':World} {lo hi:Nat} {x:Wo} {a b d e:Option Addr} {p q r s:Nat} {lo' hi':Nat} (h:mF w lo hi x a b d e p q r s) (ho:jV lo' hi' w w') (hr:hi≤lo'∨hi'≤lo):mF w' lo hi x a b d e p q r s:=by
 obtain ⟨⟨h1,h2,h3,h4⟩,l1,l2,l3,l4⟩:=h
 have A:∀ {z:Option Addr},(∀ i,(Value.slice z 0 0).ownBlock=some i→lo≤i∧i<w.heap.size)→Lt hi z→∀ i,(Value.slice z 0 0).ownBlock=some i→i<lo'∨hi'≤i:=fun h k i e=>by have:=h i e;have:=k i e;omega
 exact ⟨⟨h1.keptR ho (A h1.lo' l1),h2.keptR ho (A h2.lo' l2),h3.keptR ho (A h3.lo' l3),h4.keptR ho (A h4.lo' l4)⟩,l1,l2,l3,l4⟩
theorem LD.keptR {w w':World} {lo hi:Nat} {x:Wo} {a b d e:Option Addr} {p q r s:Nat} {lo' hi':Nat} (h:LD w lo hi x a b d e p q r s) (ho:jV lo' hi' w w') (hr:hi≤lo'∨hi'≤lo):LD w' lo hi x a b d e p q r s:=by
 obtain ⟨⟨h1,h2,h3,h4⟩,l1,l2,l3,l4⟩:=h
 have A:∀ {z:Option Addr},(∀ i,(Value.slice z 0 0).ownBlock=some i→lo≤i∧i<w.heap.size)→Lt hi z→∀ i,(Value.slice z 0 0).ownBlock=some i→i<lo'∨hi'≤i:=fun h k i e=>by have:=h i e;have:=k i e;omega
 exact ⟨⟨h1.keptR ho (A h1.lo' l1),h2.keptR ho (A h2.lo' l2),h3.keptR ho (A h3.lo' l3),h4.keptR ho (A h4.lo' l4)⟩,l1,l2,l3,l4⟩
theorem mF.below {w w':World} {lo hi:Nat} {x:Wo} {a b d e:Option Addr} {p q r s:Nat} (h:mF w lo hi x a b d e p q r s) (hb:Below w.heap.size w w'):mF w' lo hi x a b d e p q r s:=⟨⟨h.1.1.below hb,h.1.2.1.below hb,h.1.2.2.1.below hb,h.1.2.2.2.below hb⟩,h.2⟩
theorem LD.below {w w':World} {lo hi:Nat} {x:Wo} {a b d e:Option Addr} {p q r s:Nat} (h:LD w lo hi x a b d e p q r s) (hb:Below w.heap.size w w'):LD w' lo hi x a b d e p q r s:=⟨⟨h.1.1.below hb,h.1.2.1.below hb,h.1.2.2.1.below hb,h.1.2.2.2.below hb⟩,h.2⟩
theorem New.segS {w:World} {lo n k p:Nat} {a:Option Addr} {f:Nat→Nat→Value} (h:New w lo (.slice a n p) n k f):Seg w w.heap.size a n k f:=by
 obtain ⟨a',cap',e,hs⟩:=h.seg
 simp at e
 obtain ⟨rfl,rfl⟩:=e
 exact hs
theorem mF.ofW {w w':World} {lo hi:Nat} {x:Wo} {a b d e:Option Addr} {p q r s:Nat} (h:mF w lo hi x a b d e p q r s) (i:Nat) (ho:Mf a b d e i):lo≤i∧i<hi∧i<w.heap.size:=by
 obtain ⟨⟨h1,h2,h3,h4⟩,l1,l2,l3,l4⟩:=h
 rcases ho with o|o|o|o
 ·exact ⟨(h1.lo' i o).1,l1 i o,(h1.lo' i o).2⟩
 ·exact ⟨(h2.lo' i o).1,l2 i o,(h2.lo' i o).2⟩
 ·exact ⟨(h3.lo' i o).1,l3 i o,(h3.lo' i o).2⟩
 ·exact ⟨(h4.lo' i o).1,l4 i o,(h4.lo' i o).2⟩
theorem mF.seg {w w':World} {lo hi:Nat} {x:Wo} {a b d e:Option Addr} {p q r s:Nat} (h:mF w lo hi x a b d e p q r s):gm w w.heap.size x a b d e:=⟨h.1.1.segS,h.1.2.1.segS,h.1.2.2.1.segS,h.1.2.2.2.segS⟩
theorem mF.segAt {w w':World} {lo hi:Nat} {x:Wo} {a b d e:Option Addr} {p q r s:Nat} (h:mF w lo hi x a b d e p q r s) (hb:Below w.heap.size w w'):gm w' w'.heap.size x a b d e:=mF.seg (w':=w') (h.below hb)
theorem Row.newS {w:World} {g n k lo:Nat} {t:TypeId} {f:Nat→Nat→Value} (h:Row w g t n k f) (hl:lo≤g):New w lo (.slice (some ⟨g,0,none⟩) n n) n k f:=.inr ⟨g,_,rfl,hl,h.lie⟩
theorem gJ.new {w:World} {lo:Nat} {x:Wo} {g1 g2 g3 g4:Nat} (h:gJ w lo x g1 g2 g3 g4):mF w lo w.heap.size x (some ⟨g1,0,none⟩) (some ⟨g2,0,none⟩) (some ⟨g3,0,none⟩) (some ⟨g4,0,none⟩) x.ch.cells.length x.ch.words.length x.hands.length x.deals.length∧Apart (some ⟨g1,0,none⟩) (some ⟨g2,0,none⟩) (some ⟨g3,0,none⟩) (some ⟨g4,0,none⟩):=by
 obtain ⟨⟨k1,k2,k3,k4⟩,r1,r2,r3,r4⟩:=h
 have c:∀ {g:Nat} i,(Value.slice (some ⟨g,0,none⟩) 0 0).ownBlock=some i→i=g:=fun i e=>by simp [Value.ownBlock] at e;exact e.symm
 have o:∀ g:Nat,(Value.slice (some ⟨g,0,none⟩) 0 0).ownBlock=some g:=fun g=>rfl
 have n12:=r1.ty r2 (by decide)
 have n13:=r1.ty r3 (by decide)
 have n14:=r1.ty r4 (by decide)
 have n23:=r2.ty r3 (by decide)
 have n24:=r2.ty r4 (by decide)
 have n34:=r3.ty r4 (by decide)
 refine ⟨⟨⟨r1.newS k1,r2.newS k2,r3.newS k3,r4.newS k4⟩,fun i e=>(c i e) ▸ r1.lt,fun i e=>(c i e) ▸ r2.lt,fun i e=>(c i e) ▸ r3.lt,fun i e=>(c i e) ▸ r4.lt⟩,⟨fun i e=>?_,fun i e=>?_,fun i e=>?_⟩⟩
 ·obtain rfl:=c i e;exact ⟨fun e2=>n12 (c _ e2),fun e2=>n13 (c _ e2),fun e2=>n14 (c _ e2)⟩
 ·obtain rfl:=c i e;exact ⟨fun e2=>n23 (c _ e2),fun e2=>n24 (c _ e2)⟩
 ·obtain rfl:=c i e;exact fun e2=>n34 (c _ e2)
theorem qJ {w:World} {lo:Nat} {t:TypeId} {n k:Nat} {v:Value} {xs:List Value} {f:Nat→Nat→Value} (h:w.ownsRow lo t k v n xs) (hl:xs.length=n*k) (hf:∀ i j,i<n→j<k→xs[i*k+j]?=some (f i j)):∃ a p,v=.slice a n p∧New w lo (.slice a n p) n k f:=by
 rcases h.2 with ⟨h1,h0⟩|⟨g,cap,cur,rfl,hlo,hg,h4,h5,h6,h7⟩
 ·subst h0;exact ⟨none,0,h1,.inl ⟨rfl,rfl⟩⟩
 ·refine ⟨_,_,rfl,.inr ⟨g,cap,rfl,hlo,cur,_,hg,?_,fun i j hi hj=>?_⟩⟩
  ·have e:=congrArg List.length h7
   rw [List.length_take,hl] at e
   simp at e;omega
  ·have:=h.cells (g:=g) rfl (i*k+j) _ (hf i j hi hj)
   have e2:(⟨g,0,none⟩:Addr).add (i*k+j)=⟨g,i*k+j,none⟩:=by generalize i*k+j=m;by_cases e:m=0 <;> simp [Addr.add,e]
   rw [e2] at this
   simpa [World.cell?,hg] using this
theorem jl {w:World} {lo lo':Nat} {t t':TypeId} {k k' n n' p p':Nat} {a a':Option Addr} {xs xs':List Value} (h:w.ownsRow lo t k (.slice a n p) n xs) (h':w.ownsRow lo' t' k' (.slice a' n' p') n' xs') (hne:t≠t'):∀ i,(Value.slice a 0 0).ownBlock=some i→(Value.slice a' 0 0).ownBlock≠some i:=by
 intro i e e'
 rcases Dc h h' hne with h0|h0
 ·rw [eO,e] at h0;cases h0
 ·rw [eO,eO a',e,e'] at h0;exact h0 rfl
theorem Ai.new {w:World} {lo:Nat} {v1 v2 v3 v4:Value} {x:Wo} (h:Ai w lo v1 v2 v3 v4 x):∃ a b d e p q r s,v1=.slice a x.ch.cells.length p∧v2=.slice b x.ch.words.length q∧v3=.slice d x.hands.length r∧v4=.slice e x.deals.length s∧mF w lo w.heap.size x a b d e p q r s∧Apart a b d e:=by
 obtain ⟨h1,h2,h3,h4⟩:=h
 obtain ⟨a,p,rfl,n1⟩:=qJ h1 (il _) (iO _)
 obtain ⟨b,q,rfl,n2⟩:=qJ (f:=fP x.ch.words) h2 (by simp [qM]) (fun i j hi hj=>by (obtain rfl:j=0:=tO);simp [ints,fP,List.getD,hi])
 obtain ⟨d,r,rfl,n3⟩:=qJ h3 (Fp _) (pM _)
 obtain ⟨e,s,rfl,n4⟩:=qJ h4 (Fq _) (pO _)
 exact ⟨a,b,d,e,p,q,r,s,rfl,rfl,rfl,rfl,⟨⟨n1,n2,n3,n4⟩,fun i hi=>(n1.lo' i hi).2,fun i hi=>(n2.lo' i hi).2,fun i hi=>(n3.lo' i hi).2,fun i hi=>(n4.lo' i hi).2⟩,fun i hi=>⟨jl h1 h2 (by decide) i hi,jl h1 h3 (by decide) i hi,jl h1 h4 (by decide) i hi⟩,fun i hi=>⟨jl h2 h3 (by decide) i hi,jl h2 h4 (by decide) i hi⟩,fun i hi=>jl h3 h4 (by decide) i hi⟩
end
section
open Go.RowKit
theorem ap {a b:Option Addr} (h:∀ i,(Value.slice a 0 0).ownBlock=some i→(Value.slice b 0 0).ownBlock≠some i) (n p n' p':Nat):∀ i,(Value.slice a n p).ownBlock=some i→(Value.slice b n' p').ownBlock≠some i:=fun i e=>by rw [eO b];exact h i (by rw [← eO a n p];exact e)
theorem N7 {a b:Option Addr} (h:∀ i,(Value.slice a 0 0).ownBlock=some i→(Value.slice b 0 0).ownBlock≠some i) (n p n' p':Nat):∀ i,(Value.slice b n p).ownBlock=some i→(Value.slice a n' p').ownBlock≠some i:=fun i e e2=>ap h n' p' n p i e2 e
theorem pQ {v v':Value} (h:∀ i,v.ownBlock=some i→v'.ownBlock≠some i):v'.ownBlock=none∨v.ownBlock≠v'.ownBlock:=by
 cases e:v'.ownBlock with
 | none=>exact .inl rfl
 | some i=>exact .inr fun e2=>h i e2 e
theorem uP (x:Wo) (a b d e:Option Addr) (p q r s:Nat) (lo hi:Nat) (w:World) (h:mF w lo hi x a b d e p q r s) (ha:Apart a b d e) (m:iZ x) :
  Calls Tryz.prog 42 #[zY x a b d e p q r s,.int .i64 1] w fun r' w'=>r'=.returned (.int .i64 (Lb x))∧LD w' lo hi x a b d e p q r s∧jk (Mf a b d e) w w':=by
 have Ph:¬ Mf a b d e w.heap.size:=fun o=>by have:=(mF.ofW (w':=w) h _ o).2.2;omega
 unfold LD Lb
 obtain ⟨⟨cap,sent,got,fin,cells,words⟩,hands,deals,now⟩:=x
 obtain ⟨m1,m2,m3,m4⟩:=m
 obtain ⟨⟨h1,h2,h3,h4⟩,l1,l2,l3,l4⟩:=h
 simp only at *
 obtain ⟨k1,e1⟩:∃ k:Int,k=1+3*(cells.length:Int):=⟨_,rfl⟩
 obtain ⟨k2,e2⟩:∃ k:Int,k=k1+words.length:=⟨_,rfl⟩
 obtain ⟨k3,e3⟩:∃ k:Int,k=k2+14*hands.length:=⟨_,rfl⟩
 rw [← e1,← e2,← e3]
 have b1:0≤k2∧k2≤1099511627776:=by omega
 have b2:0≤k3∧k3≤1099511627776:=by omega
 have H1:=Lib.hid h1
 have H2:=Lib.hid h2
 have H3:=Lib.hid h3
 have H4:=Lib.hid h4
 have L1:=Lib.hid l1
 have L2:=Lib.hid l2
 have L3:=Lib.hid l3
 have L4:=Lib.hid l4
 have HA:=Lib.hid ha
 have E1:=Lib.hid e1
 have E2:=Lib.hid e2
 have E3:=Lib.hid e3
 clear h1 h2 h3 h4 l1 l2 l3 l4 ha e1 e2 e3
 go_enter Tryz.func42,Tryz.ntmps42
 go_wp2_with fail
 refine (xH cells.length words.length (eT cells) (fP words) cap sent got fin lo lo _ _ 1 k1 _ (H1.out.below zB) (H2.out.below zB) (ap (fun i e=>(HA.out.1 i e).1) _ _ _ _) tO tO E1.out m1 m2).mono ?_
 rintro _ w1 ⟨rfl,N1,N2,hO⟩
 rw [← E2.out]
 have R1:jk (Mf a b d e) _ w1:=jk.of_onl hO (fun i e=>.inl (by rw [← eO a cells.length p];exact e)) (fun i e=>.inr (.inl (by rw [← eO b words.length q];exact e)))
 have hs1:=R1.2.2.2.1
 try simp at hs1
 have:=fun o=>R1.cell (i:=w.heap.size) (by simp) Ph o
 have N3:=((H3.out).below (w1:=w.alloc (.cells #[.int .i64 cap,.int .i64 sent,.int .i64 got,.int .i64 fin,.slice a cells.length p,.slice b words.length q,.slice d hands.length r,.slice e deals.length s,.int .i64 now] 35)) zB).keptO hO (N7 (fun i e=>(HA.out.1 i e).2.1) _ _ _ _) (N7 (fun i e=>(HA.out.2.1 i e).1) _ _ _ _)
 have N4:=((H4.out).below (w1:=w.alloc (.cells #[.int .i64 cap,.int .i64 sent,.int .i64 got,.int .i64 fin,.slice a cells.length p,.slice b words.length q,.slice d hands.length r,.slice e deals.length s,.int .i64 now] 35)) zB).keptO hO (N7 (fun i e=>(HA.out.1 i e).2.2) _ _ _ _) (N7 (fun i e=>(HA.out.2.1 i e).2) _ _ _ _)
 have RW:=Lib.hid ((jk.of_below (P:=Mf a b d e) (by exact zB:Below w.heap.size w (w.alloc (.cells #[.int .i64 cap,.int .i64 sent,.int .i64 got,.int .i64 fin,.slice a cells.length p,.slice b words.length q,.slice d hands.length r,.slice e deals.length s,.int .i64 now] 35)))).trans R1)
 have M1:Hid (New w1 lo (.slice a cells.length p) cells.length 3 (eT (lX 1 cells.length))):=Lib.hid (by have z:=N1;unfold Jo at z;rw [o6] at z;exact z)
 have M2:Hid (New w1 lo (.slice b words.length q) words.length 1 (fP (kV k1 words.length))):=Lib.hid (by have z:=N2;unfold yj at z;rw [lY] at z;exact z)
 have M3:=Lib.hid N3
 have M4:=Lib.hid N4
 clear N1 N2 N3 N4 hO R1
 go_wp2_with fail
 refine (uM hands.length _ lo _ k2 _ M3.out b1.1 b1.2 m3).mono ?_
 rintro _ w2 ⟨rfl,N3,hg⟩
 rw [← E3.out]
 have R2:jk (Mf a b d e) _ w2:=jk.of_grown hg (fun i e=>.inr (.inr (.inl (by rw [← eO d hands.length r];exact e))))
 have hs2:=R2.2.2.2.1
 try simp at hs2
 have:=fun o=>R2.cell (i:=w.heap.size) tO Ph o
 have P1:=Lib.hid (M1.out.kept hg (pQ (ap (fun i e=>(HA.out.1 i e).2.1) _ _ _ _)))
 have P2:=Lib.hid (M2.out.kept hg (pQ (ap (fun i e=>(HA.out.2.1 i e).1) _ _ _ _)))
 have P3:=Lib.hid N3
 have P4:=Lib.hid (M4.out.kept hg (pQ (N7 (HA.out.2.2) _ _ _ _)))
 have RV:=Lib.hid (RW.out.trans R2)
 clear N3 hg R2 M1 M2 M3 M4 RW
 go_wp2_with fail
 refine (uN deals.length _ lo _ k3 _ P4.out b2.1 b2.2 m4).mono ?_
 rintro _ w3 ⟨rfl,N4,hg⟩
 have R3:jk (Mf a b d e) _ w3:=jk.of_grown hg (fun i e'=>.inr (.inr (.inr (by rw [← eO e deals.length s];exact e'))))
 have hs3:=R3.2.2.2.1
 have:=fun o=>R3.cell (i:=w.heap.size) tO Ph o
 have Q1:=Lib.hid (P1.out.kept hg (pQ (ap (fun i e=>(HA.out.1 i e).2.2) _ _ _ _)))
 have Q2:=Lib.hid (P2.out.kept hg (pQ (ap (fun i e=>(HA.out.2.1 i e).2) _ _ _ _)))
 have Q3:=Lib.hid (P3.out.kept hg (pQ (ap (HA.out.2.2) _ _ _ _)))
 have Q4:=Lib.hid N4
 have RU:=Lib.hid (RV.out.trans R3)
 clear N4 hg R3 P1 P2 P3 P4 RV
 go_wp2
 go_ret
 exact ⟨rfl,⟨⟨Q1.out,Q2.out,Q3.out,Q4.out⟩,L1.out,L2.out,L3.out,L4.out⟩,RU.out⟩
end
section
open Go.RowKit
def dP (x:Wo) (v1 v2 v3 v4:Value):Array Value:=#[.int .i64 x.ch.cap,.int .i64 x.ch.sent,.int .i64 x.ch.got,.int .i64 x.ch.fin,v1,v2,v3,v4,.int .i64 x.now]
theorem N8 (x:Wo) (v1 v2 v3 v4:Value):(dP x v1 v2 v3 v4=#[])=False:=by simp [dP]
theorem Lc (x:Wo) (v1 v2 v3 v4:Value):(dP x v1 v2 v3 v4).size=9:=rfl
theorem Mg:(Tryz.prog.info? 35).map (fun i=>(i.zero,i.size,i.bytes))=some (some (.agg (dP Wo.zero (.slice none 0 0) (.slice none 0 0) (.slice none 0 0) (.slice none 0 0))),9,136):=by kernel_rfl
theorem IZ (w:World):(zeroValue 35).run Tryz.prog w=.ok (.agg (dP Wo.zero (.slice none 0 0) (.slice none 0 0) (.slice none 0 0) (.slice none 0 0))) w:=by
 obtain ⟨i,hi,hz,_⟩:=info_parts Mg
 have e:Tryz.prog.info? 35=some Tryz.t35:=by kernel_rfl
 obtain rfl:Tryz.t35=i:=by rw [e] at hi;exact Option.some.inj hi
 simp [zeroValue,go_sem,hz]
theorem N9 (w:World):(isAgg 35).run Tryz.prog w=.ok true w:=by simp [isAgg,go_sem]
theorem Mh (w:World):(isAgg 68).run Tryz.prog w=.ok true w:=by simp [isAgg,go_sem]
theorem NA (w:World):(sizeOf 35).run Tryz.prog w=.ok 9 w:=by simp [go_sem]
theorem NB (w:World):(sizeOf 68).run Tryz.prog w=.ok 9 w:=by simp [go_sem]
variable {w:World} {b:Nat}
def Om (x:Value):Sem Value:=Instr.loadAt 35 x
def Ld (x:Value):Sem Value:=Instr.loadAt 68 x
theorem LF (x:Value):Instr.loadAt 35 x=Om x:=by unfold Om;simp
theorem Ja (x:Value):Instr.loadAt 68 x=Ld x:=by unfold Ld;simp
theorem Mi (h:okO 9 (hp w b)=true):(Om (.pointer (some ⟨b,0,none⟩))).run Tryz.prog w=.ok (.agg (gP (hp w b))) w:=by
 simp only [Om,Instr.loadAt,Instr.sureAddr,Sem.run_bind,Sem.run_pure,Result.andThen_ok,lg N9 NA h]
theorem Le (h:okO 9 (hp w b)=true):(Ld (.pointer (some ⟨b,0,none⟩))).run Tryz.prog w=.ok (.agg (gP (hp w b))) w:=by
 simp only [Ld,Instr.loadAt,Instr.sureAddr,Sem.run_bind,Sem.run_pure,Result.andThen_ok,lg Mh NB h]
theorem Eo (x:Wo) (a b' d e:Option Addr) (n1 p n2 q n3 r n4 s:Nat) (h:okO 9 (hp w b)=true):(Instr.storeAt 35 (.pointer (some ⟨b,0,none⟩)) (.agg (dP x (.slice a n1 p) (.slice b' n2 q) (.slice d n3 r) (.slice e n4 s)))).run Tryz.prog w=.ok () (bI w b (dP x (.slice a n1 p) (.slice b' n2 q) (.slice d n3 r) (.slice e n4 s))):=by
 simp only [Instr.storeAt,Instr.sureAddr,Sem.run_bind,Sem.run_pure,Result.andThen_ok]
 exact pq NA h rfl (by simp [dP,Value.oneCell'])
theorem AO (x:Wo) (a b' d e:Option Addr) (n1 p n2 q n3 r n4 s:Nat) (h:okO 9 (hp w b)=true):(storeCells ⟨b,0,none⟩ (dP x (.slice a n1 p) (.slice b' n2 q) (.slice d n3 r) (.slice e n4 s)).toList).run Tryz.prog w=.ok () (bI w b (dP x (.slice a n1 p) (.slice b' n2 q) (.slice d n3 r) (.slice e n4 s))):=kL h rfl (by simp [dP,Value.oneCell'])
theorem jV.hpk {lo hi:Nat} {w w':World} {x:Array Value} {t:TypeId} (k:jV lo hi w w') {i:Nat} (z:hp w i=some (.cells x t)) (hr:i<lo∨hi≤i):hp w' i=some (.cells x t):=(k.2.2.2.2 i (bO z).2.2 hr).trans z
def iB (x:Wo) (a b d e:Option Addr) (p1 p2 p3 p4:Nat):Prop:=(a=none→p1=0)∧(b=none→p2=0)∧(d=none→x.hands.length=0∧p3=0)∧(e=none→x.deals.length=0∧p4=0)
theorem jk.hpk {P:Nat→Prop} {w w':World} {x:Array Value} {t:TypeId} (k:jk P w w') {i:Nat} (z:hp w i=some (.cells x t)) (hr:¬ P i):hp w' i=some (.cells x t):=(k.2.2.2.2 i (bO z).2.2 hr).trans z
theorem sV (x:Wo) (a b d e:Addr) (p q r s:Nat):iB x (some a) (some b) (some d) (some e) p q r s:=⟨nofun,nofun,nofun,nofun⟩
theorem iL (x:Wo) (a b d e:Option Addr) (p1 p2 p3 p4:Nat) (w:World) (h:gm w w.heap.size x a b d e) (m:iZ x) :
  Calls Tryz.prog 39 #[.agg (dP x (.slice a x.ch.cells.length p1) (.slice b x.ch.words.length p2) (.slice d x.hands.length p3) (.slice e x.deals.length p4))] w fun r' w'=>(∃ g1 g2 g3 g4,r'=.returned (.agg (dP x (.slice (some ⟨g1,0,none⟩) x.ch.cells.length x.ch.cells.length) (.slice (some ⟨g2,0,none⟩) x.ch.words.length x.ch.words.length) (.slice (some ⟨g3,0,none⟩) x.hands.length x.hands.length) (.slice (some ⟨g4,0,none⟩) x.deals.length x.deals.length)))∧gJ w' w.heap.size x g1 g2 g3 g4)∧Below w.heap.size w w':=Ay x a b d e p1 p2 p3 p4 w h m
theorem gJ.belowS {w w':World} {lo:Nat} {x:Wo} {g1 g2 g3 g4:Nat} (h:gJ w lo x g1 g2 g3 g4) (hb:Below w.heap.size w w'):gJ w' lo x g1 g2 g3 g4:=h.below hb (Nat.le_refl _)
theorem gJ.lo' {w:World} {lo l:Nat} {x:Wo} {g1 g2 g3 g4:Nat} (h:gJ w lo x g1 g2 g3 g4) (hl:l≤lo):gJ w l x g1 g2 g3 g4:=⟨⟨Nat.le_trans hl h.1.1,Nat.le_trans hl h.1.2.1,Nat.le_trans hl h.1.2.2.1,Nat.le_trans hl h.1.2.2.2⟩,h.2⟩
theorem AP (W:World) (o:Obj):(W.alloc o).heap.size=W.heap.size+1:=Array.size_push _
theorem Ai.belowS {w w':World} {lo:Nat} {v1 v2 v3 v4:Value} {y:Wo} (h:Ai w lo v1 v2 v3 v4 y) (hb:Below w.heap.size w w'):Ai w' lo v1 v2 v3 v4 y:=⟨own_below h.1 hb,own_below h.2.1 hb,own_below h.2.2.1 hb,own_below h.2.2.2 hb⟩
theorem Ai.lo' {w:World} {lo l:Nat} {v1 v2 v3 v4:Value} {y:Wo} (h:Ai w lo v1 v2 v3 v4 y) (hl:l≤lo):Ai w l v1 v2 v3 v4 y:=⟨ay h.1 hl,ay h.2.1 hl,ay h.2.2.1 hl,ay h.2.2.2 hl⟩
theorem Jb (x:Wo):¬ Lb x<0:=by unfold Lb;omega
attribute [go_sem] Mi Le N8 Lc
end
section
open Go.RowKit
attribute [local simp] aI
end
section
open Go.RowKit
attribute [local simp] aI
attribute [local go_sem ↓] aH aM aN kR ax
attribute [local go_sem] j5
end
section
open Go.RowKit
attribute [local simp] aI
attribute [local go_sem ↓] aH aM aN kR ax
attribute [local go_sem] j5
section
variable {w:World} {b b' o i:Nat} {x:Ha}
theorem Lf (hi:b'<w.heap.size) (h:b'≠b):(setElem w b o x).cell? ⟨b',i,none⟩=w.cell? ⟨b',i,none⟩:=Gs (o7 w b o x) hi (by simpa using h) i
theorem FU (hi:b'<w.heap.size) (h:b'≠b):(setElem w b o x).frozen? ⟨b',i,none⟩=w.frozen? ⟨b',i,none⟩:=LP (o7 w b o x) hi (by simpa using h) i
end
attribute [local go_sem] Lf FU xC
end
end Go.Proofs.YtffhjmepfojhnaaGreat
