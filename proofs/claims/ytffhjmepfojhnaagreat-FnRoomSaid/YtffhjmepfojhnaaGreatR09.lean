/-
  The laws' helpers that lay out a list of deals anew and that compare two; lists of at most 1048576 elements.
-/
import Derived.Test.YtffhjmepfojhnaaGreatR08
import Derived.Test.YtffhjmepfojhnaaGreatR07
import Derived.Test.YtffhjmepfojhnaaGreatR03
import Derived.Laws.Cover3
import Derived.Test.YtffhjmepfojhnaaGreatR01
set_option maxRecDepth 100000
set_option maxHeartbeats 4000000
set_option linter.unusedSimpArgs false
set_option linter.unusedVariables false
namespace Go.Proofs.YtffhjmepfojhnaaGreat
section
open Go.RowKit
def ND (x:Value):Sem Value:=Instr.loadAt 44 x
theorem Ms (x:Value):Instr.loadAt 44 x=ND x:=by unfold ND;simp
def JA (x:Value):Sem Value:=Instr.loadAt 167 x
theorem JB (x:Value):Instr.loadAt 167 x=JA x:=by unfold JA;simp
def NF (x v:Value):Sem Unit:=Instr.storeAt 44 x v
theorem Mt (x v:Value):Instr.storeAt 44 x v=NF x v:=by unfold NF;simp
attribute [local go_sem ↓] Ms JB Mt
theorem Mv (n:Nat) (h:n≤1048576) (W:World):(Instr.makeSlice 33 (.int .i64 n) (.int .i64 n)).run Tryz.prog W=.ok (.slice (some ⟨W.heap.size,0,none⟩) n n) (W.alloc (.cells (madeCells (iY De.zero) (n*7)) 44)):=by
 obtain ⟨i,hi,hz,hs,hb⟩:=info_parts xu
 have:=run_make (P:=Tryz.prog) W 33 44 i _ Tryz.underlying33 hi hz .i64 .i64 n n tO tO (by rw [hb];omega) tO
 rw [this,hs]
 simp [Value.cells]
end
section
open Go.RowKit
end
section
open Go.RowKit
end
section
open Go.RowKit
def iG (w:World) (B:Nat) (x:Wo) (a b d e:Option Addr):Prop:=eY w B a x.ch.cells∧eQ w B b x.ch.words∧Jn w B d x.hands∧Jo w B e x.deals
def lJ (x:Wo):Prop:=x.ch.cells.length≤1048576∧x.ch.words.length≤1048576∧x.hands.length≤1048576∧x.deals.length≤1048576
end
section
open Go.RowKit
theorem Dj (x:Wo):bJ x=(((aK x.ch && dm x.now 0 20000) && nA x.hands x.now) && pV x.deals x.hands.length x.now):=by
 unfold bJ fV nA pV
 cases aK x.ch <;> cases dm x.now 0 20000 <;> cases decide (1≤x.hands.length) <;> cases decide (x.hands.length≤6) <;> cases decide (x.deals.length≤1000) <;> simp
theorem gq (x:Wo) (a b d e:Option Addr) (p q r s:Nat) (w:World) (h:iG w w.heap.size x a b d e) (m:lJ x) :
  Calls Tryz.prog 49 #[xc x a b d e p q r s] w fun r w'=>r=.returned (.bool (bJ x))∧Below w.heap.size w w':=by
 rw [Dj]
 obtain ⟨h1,h2,h3,h4⟩:=h
 obtain ⟨m1,m2,m3,m4⟩:=m
 have H1:=Lib.hid h1
 have H2:=Lib.hid h2
 have H3:=Lib.hid h3
 have H4:=Lib.hid h4
 have M1:x.ch.cells.length≤maxLen:=by unfold maxLen;omega
 have M2:x.ch.words.length≤maxLen:=by unfold maxLen;omega
 have M3:x.hands.length≤1099511627776:=by omega
 have M4:x.deals.length≤1099511627776:=by omega
 clear h1 h2 h3 h4 m1 m2 m3 m4
 go_enter Tryz.func49,Tryz.ntmps49
 go_wp2_with (first
  | (go_at_call 98;refine ax w zB fun bb=>?_;refine (fZ x.ch a b p q _ (aT H1 bb) (aT H2 bb) M1 M2).mono ?_;rintro _ w1 ⟨rfl,ah⟩;have aW:=bT bb ah;have ay:=ah.size;(try simp at ay);have zz:=Fg ah (b:=w.heap.size);(try simp [go_sem] at zz);replace bX:=zz;clear zz ah bb)
  | (go_at_call 45;refine (dX _ _ _).mono ?_;rintro _ _ ⟨rfl,rfl⟩)
  | (go_at_call 99;refine ax w zB fun bb=>?_;refine (Ao x.hands x.now w.heap.size d r _ (by simp [*]) (by simp [*]) tS (aT H3 bb) M3).mono ?_;rintro _ w2 ⟨rfl,hbw2⟩;have dE:=bT bb hbw2;have bu:=hbw2.size;(try simp at bu);have zz:=Fg hbw2 (b:=w.heap.size);(first|simp [go_sem,bX] at zz|simp [go_sem] at zz|skip);replace bX:=zz;clear zz hbw2 bb)
  | (go_at_call 100;refine ax w zB fun bb=>?_;refine (Ap x.deals x.hands.length x.now w.heap.size d e r s _ (by simp [*]) (by simp [*]) (by simp [*]) tS (aT H4 bb) M4 M3).mono ?_;rintro _ w3 ⟨rfl,aO⟩;have ig:=bT bb aO;have df:=aO.size;(try simp at df);have zz:=Fg aO (b:=w.heap.size);(first|simp [go_sem,bX] at zz|simp [go_sem] at zz|skip);replace bX:=zz;clear zz aO bb))
 all_goals go_ret
 all_goals exact ⟨bF (by simp [*]),by exact zB⟩
end
section
open Go.RowKit
theorem lq (c:Ch) (v:Int) (b:Option Addr) (q:Nat) (w:World) :
  Calls Tryz.prog 168 #[.slice b c.words.length q,.int .i64 v] w fun r w'=>r=.returned (.bool (kF c v))∧Below w.heap.size w w':=by
 go_enter Tryz.func168,Tryz.ntmps168
 go_wp2
 all_goals go_ret
 all_goals exact ⟨bF (by simp [kF,dm, *] <;> omega),by exact zB⟩
theorem Dk (c:Ch) (v:Int) (a b:Option Addr) (p q:Nat) (w:World) (h1:eY w w.heap.size a c.cells) (h2:eQ w w.heap.size b c.words) (m1:c.cells.length≤maxLen) (m2:c.words.length≤maxLen) :
  Calls Tryz.prog 280 #[.agg #[.int .i64 c.cap,.int .i64 c.sent,.int .i64 c.got,.int .i64 c.fin,.slice a c.cells.length p,.slice b c.words.length q],.int .i64 v] w fun r w'=>r=.returned (.int .i64 (gL c v))∧Below w.heap.size w w':=by
 have H1:=Lib.hid h1
 have H2:=Lib.hid h2
 have m3:=m2
 unfold maxLen at m3
 clear h1 h2
 by_cases hc:aK c=true
 ·by_cases hh:kF c v=true
  ·obtain ⟨v1,v2⟩:=nY.1 hh
   obtain ⟨i,rfl⟩:∃ i:Nat,v=(i:Int)+1:=⟨(v - 1).toNat,by omega⟩
   have hi:i<c.words.length:=by omega
   obtain ⟨bb,bo,rfl,hb,hcell⟩:∃ b' o,b=some ⟨b',o,none⟩∧b'<w.heap.size∧w.cell? ⟨b',o+i,none⟩=some (.int .i64 (c.words.getD i 0)):=by
    rcases H2.out with h0|⟨b',o',e,h1,h2⟩
    ·omega
    ·exact ⟨b',o',e,h1,by simpa [gX] using h2 i 0 hi tO⟩
   have HV:=Lib.hid (CR hc hh)
   have e:eF c ((i:Int)+1)=c.words.getD i 0:=by simp [eF]
   have HE:=Lib.hid e
   clear e
   generalize c.words.getD i 0=x at hcell HE
   have hi0:(0:Int)≤(i:Int):=by omega
   have hi1:(i:Int)<(c.words.length:Int):=by omega
   go_enter Tryz.func280,Tryz.ntmps280
   go_wp2_with fail
   refine (fZ c a _ p q _ (((H1.out).below zB).more (by simp)) (((H2.out).below zB).more (by simp)) m1 m2).mono ?_
   rintro _ w1 ⟨rfl,hb1⟩
   have hB1:Below w.heap.size w w1:=bT zB hb1
   have hs1:=hb1.size
   simp at hs1
   have:=fun o=>hb1.cell (p:=⟨w.heap.size,o,none⟩) (by simp)
   have hcell1:=(hB1.cell (p:=⟨bb,bo+i,none⟩) hb).trans hcell
   go_wp2_with fail
   refine (lq c _ _ q _).mono ?_
   rintro _ w2 ⟨rfl,hb2⟩
   have hB2:Below w.heap.size w w2:=bT zB hb2
   have:=fun o=>hb2.cell (p:=⟨w.heap.size,o,none⟩) (by simp;omega)
   have hcell2:=(hB2.cell (p:=⟨bb,bo+i,none⟩) hb).trans hcell
   go_wp2
   go_ret
   exact ⟨mX (by rw [← HV.out,HE.out]),by exact zB⟩
  ·have HV:=Lib.hid (xk (c:=c) (v:=v) (by simp [hh]))
   go_enter Tryz.func280,Tryz.ntmps280
   go_wp2_with fail
   refine (fZ c a b p q _ (((H1.out).below zB).more (by simp)) (((H2.out).below zB).more (by simp)) m1 m2).mono ?_
   rintro _ w1 ⟨rfl,hb1⟩
   have hB1:Below w.heap.size w w1:=bT zB hb1
   have hs1:=hb1.size
   simp at hs1
   have:=fun o=>hb1.cell (p:=⟨w.heap.size,o,none⟩) (by simp)
   go_wp2_with fail
   refine (lq c _ b q _).mono ?_
   rintro _ w2 ⟨rfl,hb2⟩
   have hB2:Below w.heap.size w w2:=bT zB hb2
   go_wp2
   go_ret
   exact ⟨mX HV.out,by exact zB⟩
 ·have HV:=Lib.hid (xk (c:=c) (v:=v) (by simp [hc]))
  go_enter Tryz.func280,Tryz.ntmps280
  go_wp2_with fail
  refine (fZ c a b p q _ (((H1.out).below zB).more (by simp)) (((H2.out).below zB).more (by simp)) m1 m2).mono ?_
  rintro _ w1 ⟨rfl,hb1⟩
  have hB1:Below w.heap.size w w1:=bT zB hb1
  go_wp2
  go_ret
  exact ⟨mX HV.out,by exact zB⟩
theorem JC (t e:TypeId) (a:Option Addr) (l c:Nat) (h:Tryz.prog.underlying t=some (.slice e)) (w:World):(binOp .eql t (.slice a l c) (.slice none 0 0)).run Tryz.prog w=.ok (.bool a.isNone) w:=by
 simp only [binOp]
 simp [run_equal_slice_nil w t e a l c h]
theorem Dl (l:List Int) (b:Option Addr) (q:Nat) (w:World) (h:eQ w w.heap.size b l) (hz:b=none→q=0) (hm:l.length≤1099511627776) :
  Calls Tryz.prog 153 #[.slice b l.length q] w fun r w'=>(∃ v,r=.returned v∧ai w' w.heap.size v l)∧Below w.heap.size w w':=by
 obtain ⟨i0,hi0,hz0,hz1,hz2⟩:=info_parts ku
 have hE:=JC _ _ b l.length q Tryz.underlying29
 rcases b with _|⟨bb,bo,sp⟩
 ·obtain rfl:=hz rfl
  have hn:l.length=0:=by rcases h with h|⟨_,_,h,_⟩;exact h;cases h
  obtain rfl:l=[]:=List.eq_nil_of_length_eq_zero hn
  simp at hE
  go_enter Tryz.func153,Tryz.ntmps153
  go_wp2
  go_ret
  exact ⟨⟨_,rfl,World.ownsRow_nil _ _ _ _⟩,by exact zB⟩
 ·have HN:Hid (∀ j u,(ints l)[j]?=some u→w.cell? ((⟨bb,bo,sp⟩:Addr).add j)=some u):=by
   rcases h with h0|⟨b',o',e,h1,h2⟩
   ·obtain rfl:l=[]:=List.eq_nil_of_length_eq_zero h0
    intro j u hu;simp [ints] at hu
   ·simp at e
    obtain ⟨rfl,rfl,rfl⟩:=e
    exact Seg.newsI (.inr ⟨bb,bo,rfl,h1,h2⟩)
  clear h hz
  simp at hE
  go_enter Tryz.func153,Tryz.ntmps153
  go_wp2_with (at_builtin;refine wpList_append_own _ rfl _ _ 29 rfl w.heap.size 2 i0 _ 1 8 Tryz.underlying29 hi0 hz0 hz1 hz2 rfl (by decide) _ 0 [] rfl (mH _ _ _ _ (Nat.le_refl _)) ⟨bb,bo,sp⟩ l.length q (ints l) rfl (by simp [ints]) ?c0 (zV l) ?c3 ?c4 ?c5 ?_)
  case c0=>exact fun j u hu=>gQ (HN.out j u hu)
  case c3=>unfold maxLen;omega
  case c4=>omega
  case c5=>simp
  intro v w1 hown hg _
  go_wp2
  go_ret
  exact ⟨⟨_,rfl,by simpa using hown⟩,iE zB hg (by simp) (by simp [Value.ownBlock])⟩
theorem Dm (l:List C3) (b:Option Addr) (q:Nat) (w:World) (h:eY w w.heap.size b l) (hz:b=none→q=0) (hm:l.length≤1099511627776) :
  Calls Tryz.prog 152 #[.slice b l.length q] w fun r w'=>(∃ v,r=.returned v∧ag w' w.heap.size v l)∧Below w.heap.size w w':=by
 obtain ⟨i0,hi0,hz0,hz1,hz2⟩:=info_parts xh
 have hE:=JC _ _ b l.length q Tryz.underlying28
 rcases b with _|⟨bb,bo,sp⟩
 ·obtain rfl:=hz rfl
  have hn:l.length=0:=by rcases h with h|⟨_,_,h,_⟩;exact h;cases h
  obtain rfl:l=[]:=List.eq_nil_of_length_eq_zero hn
  simp at hE
  go_enter Tryz.func152,Tryz.ntmps152
  go_wp2
  go_ret
  exact ⟨⟨_,rfl,World.ownsRow_nil _ _ _ _⟩,by exact zB⟩
 ·have HN:Hid (∀ j u,(iJ l)[j]?=some u→w.cell? ((⟨bb,bo,sp⟩:Addr).add j)=some u):=by
   rcases h with h0|⟨b',o',e,h1,h2⟩
   ·obtain rfl:l=[]:=List.eq_nil_of_length_eq_zero h0
    intro j u hu;simp [iJ] at hu
   ·simp at e
    obtain ⟨rfl,rfl,rfl⟩:=e
    exact Seg.newsC (.inr ⟨bb,bo,rfl,h1,h2⟩)
  clear h hz
  simp at hE
  go_enter Tryz.func152,Tryz.ntmps152
  go_wp2_with (at_builtin;refine wpList_append_own _ rfl _ _ 28 rfl w.heap.size 93 i0 _ 3 24 Tryz.underlying28 hi0 hz0 hz1 hz2 rfl (by decide) _ 0 [] rfl (mH _ _ _ _ (Nat.le_refl _)) ⟨bb,bo,sp⟩ l.length q (iJ l) rfl (iT l) ?c0 (wS l) ?c3 ?c4 ?c5 ?_)
  case c0=>exact fun j u hu=>gQ (HN.out j u hu)
  case c3=>unfold maxLen;omega
  case c4=>omega
  case c5=>simp
  intro v w1 hown hg _
  go_wp2
  go_ret
  exact ⟨⟨_,rfl,by simpa using hown⟩,iE zB hg (by simp) (by simp [Value.ownBlock])⟩
end
section
open Go.RowKit
theorem lK (c:Ch) (a b:Option Addr) (p q:Nat) (w:World) (h1:eY w w.heap.size a c.cells) (z1:a=none→p=0) (h2:eQ w w.heap.size b c.words) (z2:b=none→q=0) (m1:c.cells.length≤1099511627776) (m2:c.words.length≤1099511627776) :
  Calls Tryz.prog 101 #[.agg #[.int .i64 c.cap,.int .i64 c.sent,.int .i64 c.got,.int .i64 c.fin,.slice a c.cells.length p,.slice b c.words.length q]] w fun r w' =>
   (∃ v1 v2,r=.returned (.agg #[.int .i64 c.cap,.int .i64 c.sent,.int .i64 c.got,.int .i64 c.fin,v1,v2])∧ag w' w.heap.size v1 c.cells∧ai w' w.heap.size v2 c.words)∧Below w.heap.size w w':=by
 obtain ⟨cap,sent,got,fin,cells,words⟩:=c
 simp only at *
 have H1:=Lib.hid h1
 have Z1:=Lib.hid z1
 have H2:=Lib.hid h2
 have Z2:=Lib.hid z2
 clear h1 h2 z1 z2
 go_enter Tryz.func101,Tryz.ntmps101
 go_wp2_with fail
 refine (Dm cells a p _ ((H1.out.below zB).more (by simp;try omega)) Z1.out m1).mono ?_
 rintro _ w1 ⟨⟨v1,rfl,o1⟩,hb1⟩
 have hs1:=hb1.size
 simp at hs1
 have:=fun o=>hb1.cell (p:=⟨w.heap.size,o,none⟩) (by simp;omega)
 have:=fun o=>hb1.frozen (p:=⟨w.heap.size,o,none⟩) (by simp;omega)
 have:=fun o=>hb1.cell (p:=⟨w.heap.size+1,o,none⟩) (by simp)
 have:=fun o=>hb1.frozen (p:=⟨w.heap.size+1,o,none⟩) (by simp)
 have hB1:Below w.heap.size w w1:=bT zB hb1
 have k0:w.heap.size<w1.heap.size:=by omega
 have k1:w.heap.size+1<w1.heap.size:=by omega
 have Tx:=av o1 (lo':=w.heap.size+1+1) (by simp)
 obtain ⟨va,vc,rfl,_⟩:=ag.seg o1
 clear o1 hb1
 go_wp2_with fail
 refine (Dl words b q _ ((H2.out.below hB1).setOther (by simp [World.setCell];omega) (by simp)) Z2.out m2).mono ?_
 rintro _ w2 ⟨⟨v2,rfl,o2⟩,hb2⟩
 have p1:=own_below (aS Tx (p:=⟨w.heap.size,4,none⟩) (own_ne Tx (by (try simp);try omega)) (.slice va cells.length vc)) hb2
 have p2:=av o2 (lo':=w.heap.size+1+1) (by simp [World.setCell];omega)
 obtain ⟨vb,vd,rfl,_⟩:=ai.seg o2
 clear o2
 have hs2:=hb2.size
 simp [World.setCell] at hs2
 have hB2:Below w.heap.size w w2:=bT zB hb2
 have:=fun o=>hb2.cell (p:=⟨w.heap.size,o,none⟩) (by simp [World.setCell];omega)
 have:=fun o=>hb2.frozen (p:=⟨w.heap.size,o,none⟩) (by simp [World.setCell];omega)
 have:=fun o=>hb2.cell (p:=⟨w.heap.size+1,o,none⟩) (by simp [World.setCell];omega)
 have:=fun o=>hb2.frozen (p:=⟨w.heap.size+1,o,none⟩) (by simp [World.setCell];omega)
 clear hb2
 have:w.heap.size<w2.heap.size:=by omega
 have:w.heap.size+1<w2.heap.size:=by omega
 go_wp2_with fail
 refine bodyPost_ret (v:=.agg #[.int .i64 cap,.int .i64 sent,.int .i64 got,.int .i64 fin,.slice va cells.length vc,.slice vb words.length vd]) (by simp [results,Tryz.results101,go_sem, *]) rfl ⟨⟨_,_,rfl,?_,?_⟩,?_⟩
 ·refine av (lo:=w.heap.size+1+1) ?_ tO
  repeat (first|with_reducible exact p1|((with_reducible refine aS ?_ ?_ _);rotate_left;(focus exact own_ne p1 (by (try simp);try omega))))
 ·refine av (lo:=w.heap.size+1+1) ?_ tO
  repeat (first|with_reducible exact p2|((with_reducible refine aS ?_ ?_ _);rotate_left;(focus exact own_ne p2 (by (try simp);try omega))))
 ·exact zB
end
section
open Go.RowKit
end
section
open Go.RowKit
def Lt (hi:Nat) (a:Option Addr):Prop:=∀ i,(Value.slice a 0 0).ownBlock=some i→i<hi
theorem jN (a:Option Addr) (n p:Nat):(Value.slice a n p).ownBlock=(Value.slice a 0 0).ownBlock:=by rcases a with _|⟨i,_|o,k⟩ <;> rfl
def Gu (w:World) (lo hi:Nat) (x:Wo) (a b d e:Option Addr) (p q r s:Nat):Prop:=(New w lo (.slice a x.ch.cells.length p) x.ch.cells.length 3 (ib x.ch.cells)∧New w lo (.slice b x.ch.words.length q) x.ch.words.length 1 (gX x.ch.words)∧New w lo (.slice d x.hands.length r) x.hands.length 14 (fI x.hands)∧New w lo (.slice e x.deals.length s) x.deals.length 7 (nW x.deals))∧(Lt hi a∧Lt hi b∧Lt hi d∧Lt hi e)
def Apart (a b d e:Option Addr):Prop:=(∀ i,(Value.slice a 0 0).ownBlock=some i→(Value.slice b 0 0).ownBlock≠some i∧(Value.slice d 0 0).ownBlock≠some i∧(Value.slice e 0 0).ownBlock≠some i)∧(∀ i,(Value.slice b 0 0).ownBlock=some i→(Value.slice d 0 0).ownBlock≠some i∧(Value.slice e 0 0).ownBlock≠some i)∧(∀ i,(Value.slice d 0 0).ownBlock=some i→(Value.slice e 0 0).ownBlock≠some i)
theorem New.lo' {w:World} {lo n k p:Nat} {a:Option Addr} {f:Nat→Nat→Value} (h:New w lo (.slice a n p) n k f):∀ i,(Value.slice a 0 0).ownBlock=some i→lo≤i∧i<w.heap.size:=fun i hi=>h.lt (by rw [jN];exact hi)
theorem New.segS {w:World} {lo n k p:Nat} {a:Option Addr} {f:Nat→Nat→Value} (h:New w lo (.slice a n p) n k f):Seg w w.heap.size a n k f:=by
 obtain ⟨a',cap',e,hs⟩:=h.seg
 simp at e
 obtain ⟨rfl,rfl⟩:=e
 exact hs
theorem Gu.seg {w w':World} {lo hi:Nat} {x:Wo} {a b d e:Option Addr} {p q r s:Nat} (h:Gu w lo hi x a b d e p q r s):iG w w.heap.size x a b d e:=⟨h.1.1.segS,h.1.2.1.segS,h.1.2.2.1.segS,h.1.2.2.2.segS⟩
theorem Row.newS {w:World} {g n k lo:Nat} {t:TypeId} {f:Nat→Nat→Value} (h:Row w g t n k f) (hl:lo≤g):New w lo (.slice (some ⟨g,0,none⟩) n n) n k f:=.inr ⟨g,_,rfl,hl,h.lie⟩
theorem sJ {w:World} {lo:Nat} {t:TypeId} {n k:Nat} {v:Value} {xs:List Value} {f:Nat→Nat→Value} (h:w.ownsRow lo t k v n xs) (hl:xs.length=n*k) (hf:∀ i j,i<n→j<k→xs[i*k+j]?=some (f i j)):∃ a p,v=.slice a n p∧New w lo (.slice a n p) n k f:=by
 rcases h.2 with ⟨h1,h0⟩|⟨g,cap,cur,rfl,hlo,hg,h4,h5,h6,h7⟩
 ·subst h0;exact ⟨none,0,h1,.inl ⟨rfl,rfl⟩⟩
 ·refine ⟨_,_,rfl,.inr ⟨g,cap,rfl,hlo,cur,_,hg,?_,fun i j hi hj=>?_⟩⟩
  ·have e:=congrArg List.length h7
   rw [List.length_take,hl] at e
   simp at e;omega
  ·have:=h.cells (g:=g) rfl (i*k+j) _ (hf i j hi hj)
   have e2:(⟨g,0,none⟩:Addr).add (i*k+j)=⟨g,i*k+j,none⟩:=by generalize i*k+j=m;by_cases e:m=0 <;> simp [Addr.add,e]
   rw [e2] at this
   simpa [World.cell?,hg] using this
theorem jY {w:World} {lo lo':Nat} {t t':TypeId} {k k' n n' p p':Nat} {a a':Option Addr} {xs xs':List Value} (h:w.ownsRow lo t k (.slice a n p) n xs) (h':w.ownsRow lo' t' k' (.slice a' n' p') n' xs') (hne:t≠t'):∀ i,(Value.slice a 0 0).ownBlock=some i→(Value.slice a' 0 0).ownBlock≠some i:=by
 intro i e e'
 rcases gU h h' hne with h0|h0
 ·rw [jN,e] at h0;cases h0
 ·rw [jN,jN a',e,e'] at h0;exact h0 rfl
theorem ry.new {w:World} {lo:Nat} {v1 v2 v3 v4:Value} {x:Wo} (h:ry w lo v1 v2 v3 v4 x):∃ a b d e p q r s,v1=.slice a x.ch.cells.length p∧v2=.slice b x.ch.words.length q∧v3=.slice d x.hands.length r∧v4=.slice e x.deals.length s∧Gu w lo w.heap.size x a b d e p q r s∧Apart a b d e:=by
 obtain ⟨h1,h2,h3,h4⟩:=h
 obtain ⟨a,p,rfl,n1⟩:=sJ h1 (iT _) (iD _)
 obtain ⟨b,q,rfl,n2⟩:=sJ (f:=gX x.ch.words) h2 (by simp [sV]) (fun i j hi hj=>by (obtain rfl:j=0:=tO);simp [ints,gX,List.getD,hi])
 obtain ⟨d,r,rfl,n3⟩:=sJ h3 (jw _) (jy _)
 obtain ⟨e,s,rfl,n4⟩:=sJ h4 (oH _) (mJ _)
 exact ⟨a,b,d,e,p,q,r,s,rfl,rfl,rfl,rfl,⟨⟨n1,n2,n3,n4⟩,fun i hi=>(n1.lo' i hi).2,fun i hi=>(n2.lo' i hi).2,fun i hi=>(n3.lo' i hi).2,fun i hi=>(n4.lo' i hi).2⟩,fun i hi=>⟨jY h1 h2 (by decide) i hi,jY h1 h3 (by decide) i hi,jY h1 h4 (by decide) i hi⟩,fun i hi=>⟨jY h2 h3 (by decide) i hi,jY h2 h4 (by decide) i hi⟩,fun i hi=>jY h3 h4 (by decide) i hi⟩
end
section
open Go.RowKit
end
section
open Go.RowKit
def gK (x:Wo) (v1 v2 v3 v4:Value):Array Value:=#[.int .i64 x.ch.cap,.int .i64 x.ch.sent,.int .i64 x.ch.got,.int .i64 x.ch.fin,v1,v2,v3,v4,.int .i64 x.now]
theorem Py (x:Wo) (v1 v2 v3 v4:Value):(gK x v1 v2 v3 v4=#[])=False:=by simp [gK]
theorem Mw (x:Wo) (v1 v2 v3 v4:Value):(gK x v1 v2 v3 v4).size=9:=rfl
theorem Pz (w:World):(isAgg 35).run Tryz.prog w=.ok true w:=by simp [isAgg,go_sem]
theorem NY (w:World):(isAgg 68).run Tryz.prog w=.ok true w:=by simp [isAgg,go_sem]
theorem Rx (w:World):(sizeOf 35).run Tryz.prog w=.ok 9 w:=by simp [go_sem]
theorem P5 (w:World):(sizeOf 68).run Tryz.prog w=.ok 9 w:=by simp [go_sem]
variable {w:World} {b:Nat}
def Ty (x:Value):Sem Value:=Instr.loadAt 35 x
def P6 (x:Value):Sem Value:=Instr.loadAt 68 x
theorem NZ (h:okO 9 (hp w b)=true):(Ty (.pointer (some ⟨b,0,none⟩))).run Tryz.prog w=.ok (.agg (iF (hp w b))) w:=by
 simp only [Ty,Instr.loadAt,Instr.sureAddr,Sem.run_bind,Sem.run_pure,Result.andThen_ok,mI Pz Rx h]
theorem Mx (h:okO 9 (hp w b)=true):(P6 (.pointer (some ⟨b,0,none⟩))).run Tryz.prog w=.ok (.agg (iF (hp w b))) w:=by
 simp only [P6,Instr.loadAt,Instr.sureAddr,Sem.run_bind,Sem.run_pure,Result.andThen_ok,mI NY P5 h]
def kT (x:Wo) (a b d e:Option Addr) (p1 p2 p3 p4:Nat):Prop:=(a=none→p1=0)∧(b=none→p2=0)∧(d=none→x.hands.length=0∧p3=0)∧(e=none→x.deals.length=0∧p4=0)
def JD (w w':World) (y:Wo) (t:Value) (r:Ending):Prop:=(∃ a b d e p1 p2 p3 p4,r=.returned (.tuple #[.agg (gK y (.slice a y.ch.cells.length p1) (.slice b y.ch.words.length p2) (.slice d y.hands.length p3) (.slice e y.deals.length p4)),t])∧Gu w' w.heap.size w'.heap.size y a b d e p1 p2 p3 p4∧Apart a b d e)∧Below w.heap.size w w'
theorem iM.toW {w w':World} {y:Wo} {t:Value} {r:Ending} (h:iM w w' y t r):JD w w' y t r:=by
 obtain ⟨⟨v1,v2,v3,v4,rfl,ho⟩,hb⟩:=h
 obtain ⟨a,b,d,e,p1,p2,p3,p4,rfl,rfl,rfl,rfl,hn,ha⟩:=ho.new
 exact ⟨⟨a,b,d,e,p1,p2,p3,p4,rfl,hn,ha⟩,hb⟩
theorem Av (W:World) (o:Obj):(W.alloc o).heap.size=W.heap.size+1:=Array.size_push _
attribute [go_sem] NZ Mx Py Mw
end
end Go.Proofs.YtffhjmepfojhnaaGreat
