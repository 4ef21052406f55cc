/-
  The program's functions of chapter 3 that tell a word, and its copies of lists; lists lie in memory and hold at most 2 ^ 40 elements.
-/
import Derived.Test.YtffhjmepfojhnaaGreatP03
import Derived.Test.YtffhjmepfojhnaaGreatP07
import Derived.Laws.Cover3
import Derived.Deep.AppendLies
import Derived.Test.YtffhjmepfojhnaaGreatP02
import Derived.BigRegion
set_option maxRecDepth 100000
set_option maxHeartbeats 1000000
set_option linter.unusedSimpArgs false
set_option linter.unusedVariables false
namespace Go.Proofs.YtffhjmepfojhnaaGreat
section
open Go.RowKit
theorem jL (c:Ch) (v:Int) (b:Option Addr) (q:Nat) (w:World) :
  Calls Tryz.prog 168 #[.slice b c.words.length q,.int .i64 v] w fun r w'=>r=.returned (.bool (jo c v))∧Below w.heap.size w w':=by
 go_enter Tryz.func168,Tryz.ntmps168
 go_wp2
 all_goals go_ret
 all_goals exact ⟨aZ (by simp [jo,dL, *] <;> omega),by exact zB⟩
theorem BP (c:Ch) (v:Int) (a b:Option Addr) (p q:Nat) (w:World) (h1:eY w w.heap.size a c.cells) (h2:eZ w w.heap.size b c.words) (m1:c.cells.length≤maxLen) (m2:c.words.length≤maxLen) :
  Calls Tryz.prog 280 #[.agg #[.int .i64 c.cap,.int .i64 c.sent,.int .i64 c.got,.int .i64 c.fin,.slice a c.cells.length p,.slice b c.words.length q],.int .i64 v] w fun r w'=>r=.returned (.int .i64 (gq c v))∧Below w.heap.size w w':=by
 have H1:=Lib.hid h1
 have H2:=Lib.hid h2
 have m3:=m2
 unfold maxLen at m3
 clear h1 h2
 by_cases hc:aG c=true
 ·by_cases hh:jo c v=true
  ·obtain ⟨v1,v2⟩:=mI.1 hh
   obtain ⟨i,rfl⟩:∃ i:Nat,v=(i:Int)+1:=⟨(v - 1).toNat,by omega⟩
   have hi:i<c.words.length:=by omega
   obtain ⟨bb,bo,rfl,hb,hcell⟩:∃ b' o,b=some ⟨b',o,none⟩∧b'<w.heap.size∧w.cell? ⟨b',o+i,none⟩=some (.int .i64 (c.words.getD i 0)):=by
    rcases H2.out with h0|⟨b',o',e,h1,h2⟩
    ·omega
    ·exact ⟨b',o',e,h1,by simpa [fP] using h2 i 0 hi tO⟩
   have HV:=Lib.hid (Bq hc hh)
   have e:dX c ((i:Int)+1)=c.words.getD i 0:=by simp [dX]
   have HE:=Lib.hid e
   clear e
   generalize c.words.getD i 0=x at hcell HE
   have hi0:(0:Int)≤(i:Int):=by omega
   have hi1:(i:Int)<(c.words.length:Int):=by omega
   go_enter Tryz.func280,Tryz.ntmps280
   go_wp2_with fail
   refine (fF c a _ p q _ (((H1.out).below zB).more (by simp)) (((H2.out).below zB).more (by simp)) m1 m2).mono ?_
   rintro _ w1 ⟨rfl,hb1⟩
   have hB1:Below w.heap.size w w1:=bT zB hb1
   have hs1:=hb1.size
   simp at hs1
   have:=fun o=>hb1.cell (p:=⟨w.heap.size,o,none⟩) (by simp)
   have hcell1:=(hB1.cell (p:=⟨bb,bo+i,none⟩) hb).trans hcell
   go_wp2_with fail
   refine (jL c _ _ q _).mono ?_
   rintro _ w2 ⟨rfl,hb2⟩
   have hB2:Below w.heap.size w w2:=bT zB hb2
   have:=fun o=>hb2.cell (p:=⟨w.heap.size,o,none⟩) (by simp;omega)
   have hcell2:=(hB2.cell (p:=⟨bb,bo+i,none⟩) hb).trans hcell
   go_wp2
   go_ret
   exact ⟨jm (by rw [← HV.out,HE.out]),by exact zB⟩
  ·have HV:=Lib.hid (vv (c:=c) (v:=v) (by simp [hh]))
   go_enter Tryz.func280,Tryz.ntmps280
   go_wp2_with fail
   refine (fF c a b p q _ (((H1.out).below zB).more (by simp)) (((H2.out).below zB).more (by simp)) m1 m2).mono ?_
   rintro _ w1 ⟨rfl,hb1⟩
   have hB1:Below w.heap.size w w1:=bT zB hb1
   have hs1:=hb1.size
   simp at hs1
   have:=fun o=>hb1.cell (p:=⟨w.heap.size,o,none⟩) (by simp)
   go_wp2_with fail
   refine (jL c _ b q _).mono ?_
   rintro _ w2 ⟨rfl,hb2⟩
   have hB2:Below w.heap.size w w2:=bT zB hb2
   go_wp2
   go_ret
   exact ⟨jm HV.out,by exact zB⟩
 ·have HV:=Lib.hid (vv (c:=c) (v:=v) (by simp [hc]))
  go_enter Tryz.func280,Tryz.ntmps280
  go_wp2_with fail
  refine (fF c a b p q _ (((H1.out).below zB).more (by simp)) (((H2.out).below zB).more (by simp)) m1 m2).mono ?_
  rintro _ w1 ⟨rfl,hb1⟩
  have hB1:Below w.heap.size w w1:=bT zB hb1
  go_wp2
  go_ret
  exact ⟨jm HV.out,by exact zB⟩
theorem Hw (t e:TypeId) (a:Option Addr) (l c:Nat) (h:Tryz.prog.underlying t=some (.slice e)) (w:World):(binOp .eql t (.slice a l c) (.slice none 0 0)).run Tryz.prog w=.ok (.bool a.isNone) w:=by
 simp only [binOp]
 simp [run_equal_slice_nil w t e a l c h]
theorem BQ (l:List Int) (b:Option Addr) (q:Nat) (w:World) (h:eZ w w.heap.size b l) (hz:b=none→q=0) (hm:l.length≤1099511627776) :
  Calls Tryz.prog 153 #[.slice b l.length q] w fun r w'=>(∃ v,r=.returned v∧ai w' w.heap.size v l)∧Below w.heap.size w w':=by
 obtain ⟨i0,hi0,hz0,hz1,hz2⟩:=info_parts jI
 have hE:=Hw _ _ b l.length q Tryz.underlying29
 rcases b with _|⟨bb,bo,sp⟩
 ·obtain rfl:=hz rfl
  have hn:l.length=0:=by rcases h with h|⟨_,_,h,_⟩;exact h;cases h
  obtain rfl:l=[]:=List.eq_nil_of_length_eq_zero hn
  simp at hE
  go_enter Tryz.func153,Tryz.ntmps153
  go_wp2
  go_ret
  exact ⟨⟨_,rfl,World.ownsRow_nil _ _ _ _⟩,by exact zB⟩
 ·have HN:Hid (∀ j u,(ints l)[j]?=some u→w.cell? ((⟨bb,bo,sp⟩:Addr).add j)=some u):=by
   rcases h with h0|⟨b',o',e,h1,h2⟩
   ·obtain rfl:l=[]:=List.eq_nil_of_length_eq_zero h0
    intro j u hu;simp [ints] at hu
   ·simp at e
    obtain ⟨rfl,rfl,rfl⟩:=e
    exact Seg.newsI (.inr ⟨bb,bo,rfl,h1,h2⟩)
  clear h hz
  simp at hE
  go_enter Tryz.func153,Tryz.ntmps153
  go_wp2_with (at_builtin;refine wpList_append_own _ rfl _ _ 29 rfl w.heap.size 2 i0 _ 1 8 Tryz.underlying29 hi0 hz0 hz1 hz2 rfl (by decide) _ 0 [] rfl (kZ _ _ _ _ (Nat.le_refl _)) ⟨bb,bo,sp⟩ l.length q (ints l) rfl (by simp [ints]) ?c0 (yh l) ?c3 ?c4 ?c5 ?_)
  case c0=>exact fun j u hu=>gF (HN.out j u hu)
  case c3=>unfold maxLen;omega
  case c4=>omega
  case c5=>simp
  intro v w1 hown hg _
  go_wp2
  go_ret
  exact ⟨⟨_,rfl,by simpa using hown⟩,lI zB hg (by simp) (by simp [Value.ownBlock])⟩
theorem BR (l:List C3) (b:Option Addr) (q:Nat) (w:World) (h:eY w w.heap.size b l) (hz:b=none→q=0) (hm:l.length≤1099511627776) :
  Calls Tryz.prog 152 #[.slice b l.length q] w fun r w'=>(∃ v,r=.returned v∧ah w' w.heap.size v l)∧Below w.heap.size w w':=by
 obtain ⟨i0,hi0,hz0,hz1,hz2⟩:=info_parts vo
 have hE:=Hw _ _ b l.length q Tryz.underlying28
 rcases b with _|⟨bb,bo,sp⟩
 ·obtain rfl:=hz rfl
  have hn:l.length=0:=by rcases h with h|⟨_,_,h,_⟩;exact h;cases h
  obtain rfl:l=[]:=List.eq_nil_of_length_eq_zero hn
  simp at hE
  go_enter Tryz.func152,Tryz.ntmps152
  go_wp2
  go_ret
  exact ⟨⟨_,rfl,World.ownsRow_nil _ _ _ _⟩,by exact zB⟩
 ·have HN:Hid (∀ j u,(gU l)[j]?=some u→w.cell? ((⟨bb,bo,sp⟩:Addr).add j)=some u):=by
   rcases h with h0|⟨b',o',e,h1,h2⟩
   ·obtain rfl:l=[]:=List.eq_nil_of_length_eq_zero h0
    intro j u hu;simp [gU] at hu
   ·simp at e
    obtain ⟨rfl,rfl,rfl⟩:=e
    exact Seg.newsC (.inr ⟨bb,bo,rfl,h1,h2⟩)
  clear h hz
  simp at hE
  go_enter Tryz.func152,Tryz.ntmps152
  go_wp2_with (at_builtin;refine wpList_append_own _ rfl _ _ 28 rfl w.heap.size 93 i0 _ 3 24 Tryz.underlying28 hi0 hz0 hz1 hz2 rfl (by decide) _ 0 [] rfl (kZ _ _ _ _ (Nat.le_refl _)) ⟨bb,bo,sp⟩ l.length q (gU l) rfl (il l) ?c0 (uY l) ?c3 ?c4 ?c5 ?_)
  case c0=>exact fun j u hu=>gF (HN.out j u hu)
  case c3=>unfold maxLen;omega
  case c4=>omega
  case c5=>simp
  intro v w1 hown hg _
  go_wp2
  go_ret
  exact ⟨⟨_,rfl,by simpa using hown⟩,lI zB hg (by simp) (by simp [Value.ownBlock])⟩
end
section
open Go.RowKit
theorem lS (c:Ch) (a b:Option Addr) (p q:Nat) (w:World) (h1:eY w w.heap.size a c.cells) (z1:a=none→p=0) (h2:eZ w w.heap.size b c.words) (z2:b=none→q=0) (m1:c.cells.length≤1099511627776) (m2:c.words.length≤1099511627776) :
  Calls Tryz.prog 101 #[.agg #[.int .i64 c.cap,.int .i64 c.sent,.int .i64 c.got,.int .i64 c.fin,.slice a c.cells.length p,.slice b c.words.length q]] w fun r w' =>
   (∃ v1 v2,r=.returned (.agg #[.int .i64 c.cap,.int .i64 c.sent,.int .i64 c.got,.int .i64 c.fin,v1,v2])∧ah w' w.heap.size v1 c.cells∧ai w' w.heap.size v2 c.words)∧Below w.heap.size w w':=by
 obtain ⟨cap,sent,got,fin,cells,words⟩:=c
 simp only at *
 have H1:=Lib.hid h1
 have Z1:=Lib.hid z1
 have H2:=Lib.hid h2
 have Z2:=Lib.hid z2
 clear h1 h2 z1 z2
 go_enter Tryz.func101,Tryz.ntmps101
 go_wp2_with fail
 refine (BR cells a p _ ((H1.out.below zB).more (by simp;try omega)) Z1.out m1).mono ?_
 rintro _ w1 ⟨⟨v1,rfl,o1⟩,hb1⟩
 have hs1:=hb1.size
 simp at hs1
 have:=fun o=>hb1.cell (p:=⟨w.heap.size,o,none⟩) (by simp;omega)
 have:=fun o=>hb1.frozen (p:=⟨w.heap.size,o,none⟩) (by simp;omega)
 have:=fun o=>hb1.cell (p:=⟨w.heap.size+1,o,none⟩) (by simp)
 have:=fun o=>hb1.frozen (p:=⟨w.heap.size+1,o,none⟩) (by simp)
 have hB1:Below w.heap.size w w1:=bT zB hb1
 have k0:w.heap.size<w1.heap.size:=by omega
 have k1:w.heap.size+1<w1.heap.size:=by omega
 have P7:=ay o1 (lo':=w.heap.size+1+1) (by simp)
 obtain ⟨va,vc,rfl,_⟩:=ah.seg o1
 clear o1 hb1
 go_wp2_with fail
 refine (BQ words b q _ ((H2.out.below hB1).setOther (by simp [World.setCell];omega) (by simp)) Z2.out m2).mono ?_
 rintro _ w2 ⟨⟨v2,rfl,o2⟩,hb2⟩
 have p1:=own_below (bP P7 (p:=⟨w.heap.size,4,none⟩) (own_ne P7 (by (try simp);try omega)) (.slice va cells.length vc)) hb2
 have p2:=ay o2 (lo':=w.heap.size+1+1) (by simp [World.setCell];omega)
 obtain ⟨vb,vd,rfl,_⟩:=ai.seg o2
 clear o2
 have hs2:=hb2.size
 simp [World.setCell] at hs2
 have hB2:Below w.heap.size w w2:=bT zB hb2
 have:=fun o=>hb2.cell (p:=⟨w.heap.size,o,none⟩) (by simp [World.setCell];omega)
 have:=fun o=>hb2.frozen (p:=⟨w.heap.size,o,none⟩) (by simp [World.setCell];omega)
 have:=fun o=>hb2.cell (p:=⟨w.heap.size+1,o,none⟩) (by simp [World.setCell];omega)
 have:=fun o=>hb2.frozen (p:=⟨w.heap.size+1,o,none⟩) (by simp [World.setCell];omega)
 clear hb2
 have:w.heap.size<w2.heap.size:=by omega
 have:w.heap.size+1<w2.heap.size:=by omega
 go_wp2_with fail
 refine bodyPost_ret (v:=.agg #[.int .i64 cap,.int .i64 sent,.int .i64 got,.int .i64 fin,.slice va cells.length vc,.slice vb words.length vd]) (by simp [results,Tryz.results101,go_sem, *]) rfl ⟨⟨_,_,rfl,?_,?_⟩,?_⟩
 ·refine ay (lo:=w.heap.size+1+1) ?_ tO
  repeat (first|with_reducible exact p1|((with_reducible refine bP ?_ ?_ _);rotate_left;(focus exact own_ne p1 (by (try simp);try omega))))
 ·refine ay (lo:=w.heap.size+1+1) ?_ tO
  repeat (first|with_reducible exact p2|((with_reducible refine bP ?_ ?_ _);rotate_left;(focus exact own_ne p2 (by (try simp);try omega))))
 ·exact zB
end
section
open Go.RowKit
theorem mO {w w':World} {row:Option Nat} (h:Below w.heap.size w w'):w.grownBy w' row:=⟨h.os,h.tape,h.output,h.size,fun i hi _=>h.block i hi⟩
theorem LU {w w':World} {g:Nat} (h:Below w.heap.size w w') (o:Nat) (u:Value):w.grownBy (w'.setCell ⟨g,o,none⟩ u) (some g) :=
 ⟨h.os,h.tape,h.output,by simp [World.setCell];exact h.size,fun i hi hn=>by rw [Below.heap_setCell w' ⟨g,o,none⟩ u i (fun e=>hn (by rw [e]))];exact h.block i hi⟩
theorem zk (c:Ch) (v x:Int) (g1 g2:Nat) (v2:Value) (lo:Nat) (w:World) (h:ai w lo v2 c.words) (c1:w.cell? ⟨g1,0,none⟩=some v2) (c2:w.cell? ⟨g2,0,none⟩=some (.int .i64 v)) (hm:c.words.length≤1099511627776) :
  Calls Tryz.prog 167 #[.int .i64 x,.pointer (some ⟨g1,0,none⟩),.pointer (some ⟨g2,0,none⟩)] w fun r w'=>r=.returned (.bool (eU c v x))∧ai w' lo v2 (dD c v x).words∧w.grownBy w' v2.ownBlock:=by
 have l1:=World.block_lt_of_cell? w _ c1
 have l2:=World.block_lt_of_cell? w _ c2
 simp only at l1 l2
 by_cases hh:jo c v=true
 ·obtain ⟨a1,a2⟩:=mI.1 hh
  obtain ⟨i,rfl⟩:∃ i:Nat,v=(i:Int)+1:=⟨(v - 1).toNat,by omega⟩
  have hi:i<c.words.length:=by omega
  obtain ⟨g,cap,rfl,hlo,hlt,hcell,hfr⟩:=h.open1 hi
  have e:dX c ((i:Int)+1)=c.words.getD i 0:=by simp [dX]
  have HE:=Lib.hid e
  have HO:=Lib.hid h
  clear e h
  generalize c.words.getD i 0=y at hcell HE
  have hi0:(0:Int)≤(i:Int):=by omega
  have hi1:(i:Int)<(c.words.length:Int):=by omega
  go_enter Tryz.func167,Tryz.ntmps167
  go_wp2_with fail
  refine (jL c _ _ cap _).mono ?_
  rintro _ w1 ⟨rfl,hb1⟩
  have d1:=(hb1.cell (p:=⟨g1,0,none⟩) l1).trans c1
  have d2:=(hb1.cell (p:=⟨g2,0,none⟩) l2).trans c2
  have d3:=(hb1.cell (p:=⟨g,i,none⟩) hlt).trans hcell
  have d4:=fun o=>(hb1.frozen (p:=⟨g,o,none⟩) hlt).trans (hfr o)
  have o1:=own_below HO.out hb1
  by_cases ht:eU c ((i:Int)+1) x=true
  ·have ht2:=ht
   unfold eU at ht2
   rw [HE.out] at ht2
   simp [hh] at ht2
   obtain ⟨rfl,hin⟩:=ht2
   have HW:Hid ((dD c ((i:Int)+1) x).words=c.words.set i x):=by unfold dD;rw [if_pos ht];simp [Hid]
   have HT:=Lib.hid ht
   have hx:x=1∨x=2:=by simp [dL] at hin;omega
   have hx2:(x != 1 && x != 2)=false:=by rcases hx with rfl|rfl <;> rfl
   clear ht HE hin
   rcases hx with rfl|rfl
   all_goals go_wp2
   all_goals go_ret
   all_goals exact ⟨aZ (by rw [HT.out]),by rw [HW.out];exact ai.set o1 hi _,LU hb1 _ _⟩
  ·have e1:eU c ((i:Int)+1) x=false:=by simpa using ht
   have HT:=Lib.hid e1
   have HW:=Lib.hid (oI e1)
   unfold eU at e1
   rw [HE.out] at e1
   simp [hh] at e1
   clear HE ht
   by_cases hy:y=0
   ·subst hy
    have hin:=e1 rfl
    have hx1:(x != 1)=true:=by simp [dL] at hin;simp;omega
    have hx2:(x != 2)=true:=by simp [dL] at hin;simp;omega
    clear e1 hin
    go_wp2
    go_ret
    exact ⟨aZ (by rw [HT.out]),by rw [HW.out];exact o1,mO hb1⟩
   ·have hy2:(y != 0)=true:=by simpa using hy
    clear e1 hy
    go_wp2
    go_ret
    exact ⟨aZ (by rw [HT.out]),by rw [HW.out];exact o1,mO hb1⟩
 ·have e1:=vw (x:=x) (by simpa using hh)
  have HT:=Lib.hid e1
  have HW:=Lib.hid (oI e1)
  clear e1
  have HO:=Lib.hid h
  obtain ⟨a2,q2,rfl,_⟩:=h.seg
  clear h
  go_enter Tryz.func167,Tryz.ntmps167
  go_wp2_with fail
  refine (jL c _ _ q2 _).mono ?_
  rintro _ w1 ⟨rfl,hb1⟩
  have o1:=own_below HO.out hb1
  go_wp2
  go_ret
  exact ⟨aZ (by rw [HT.out]),by rw [HW.out];exact o1,mO hb1⟩
def told (c:Ch) (v x:Int):Ch:=if aG c then dD c v x else Ch.zero
def zl (c:Ch) (v x:Int):Bool:=aG c && eU c v x
def mr (c:Ch):Ch:=if aG c then (if 80≤c.words.length then c else { c with words:=c.words ++ [0] }) else Ch.zero
def rH (c:Ch):Int:=if aG c then (if 80≤c.words.length then 0 else c.words.length+1) else 0
theorem Kr {c:Ch} {v x:Int} (h:aG c=false):told c v x=Ch.zero∧zl c v x=false:=by simp [told,zl,h]
theorem zm {c:Ch} {v x:Int} (h:aG c=true):told c v x=dD c v x∧zl c v x=eU c v x:=by simp [told,zl,h]
theorem kP (c:Ch) (v x:Int):(dD c v x).cells=c.cells∧(dD c v x).cap=c.cap∧(dD c v x).sent=c.sent∧(dD c v x).got=c.got∧(dD c v x).fin=c.fin:=by unfold dD;split <;> simp
end
section
open Go.RowKit
theorem BS (a:Option Addr) (n p:Nat) (v:Int) (w:World) :
  Calls Tryz.prog 118 #[.slice a n p,.int .i64 v] w fun r w'=>r=.returned (.func (.func 167) #[] #[.pointer (some ⟨w.heap.size,0,none⟩),.pointer (some ⟨w.heap.size+1,0,none⟩)])∧w'.cell? ⟨w.heap.size,0,none⟩=some (.slice a n p)∧w'.cell? ⟨w.heap.size+1,0,none⟩=some (.int .i64 v)∧Below w.heap.size w w':=by
 go_enter Tryz.func118,Tryz.ntmps118
 go_wp2
 go_ret
 exact ⟨rfl,by simp [go_sem],by simp [go_sem],by exact zB⟩
theorem Hy (c:Ch) (v x:Int) (a b:Option Addr) (p q:Nat) (w:World) (h1:eY w w.heap.size a c.cells) (z1:a=none→p=0) (h2:eZ w w.heap.size b c.words) (z2:b=none→q=0) (m1:c.cells.length≤1099511627776) (m2:c.words.length≤1099511627776) :
  Calls Tryz.prog 68 #[.agg #[.int .i64 c.cap,.int .i64 c.sent,.int .i64 c.got,.int .i64 c.fin,.slice a c.cells.length p,.slice b c.words.length q],.int .i64 v,.int .i64 x] w fun r w' =>
   (∃ v1 v2,r=.returned (.tuple #[.agg #[.int .i64 (told c v x).cap,.int .i64 (told c v x).sent,.int .i64 (told c v x).got,.int .i64 (told c v x).fin,v1,v2],.bool (zl c v x)])∧ah w' w.heap.size v1 (told c v x).cells∧ai w' w.heap.size v2 (told c v x).words)∧Below w.heap.size w w':=by
 have H1:=Lib.hid h1
 have H2:=Lib.hid h2
 have Z1:=Lib.hid z1
 have Z2:=Lib.hid z2
 have n1:c.cells.length≤maxLen:=by unfold maxLen;omega
 have n2:c.words.length≤maxLen:=by unfold maxLen;omega
 clear h1 h2 z1 z2
 by_cases hc:aG c=true
 ·obtain ⟨e1,e2⟩:=zm (v:=v) (x:=x) hc
  obtain ⟨f1,f2,f3,f4,f5⟩:=kP c v x
  have E:=Lib.hid (And.intro e1 e2)
  have FF:=Lib.hid (kP c v x)
  clear e1 e2 f1 f2 f3 f4 f5
  go_enter Tryz.func68,Tryz.ntmps68
  go_wp2_with fail;refine au w zB fun bb=>?_;refine (fF c a b p q _ (aT H1 bb) (aT H2 bb) n1 n2).mono ?_;rintro _ w1 ⟨rfl,ag⟩;have aV:=bT bb ag;have ak:=ag.size;(try simp at ak);have zz:=And.intro (DV ag (b:=w.heap.size+1)) <| DV ag (b:=w.heap.size);(try simp [go_sem] at zz);replace bX:=zz;clear zz ag bb
  rw [hc]
  go_wp2_with fail;refine au w zB fun bb=>?_;refine (lS c a b p q _ (aT H1 bb) Z1.out (aT H2 bb) Z2.out m1 m2).mono ?_;rintro _ w2 ⟨⟨v1,v2,rfl,o1,o2⟩,hbw2⟩;have dh:=bT bb hbw2;have aR:=hbw2.size;(try simp at aR);have zz:=And.intro (DV hbw2 (b:=w.heap.size+1)) <| DV hbw2 (b:=w.heap.size);(first|simp [go_sem,bX] at zz|simp [go_sem] at zz|skip);replace bX:=zz;clear zz hbw2 bb
  try simp at o1 o2
  have O1:=Lib.hid o1
  have O2:=Lib.hid o2
  obtain ⟨va,vc,rfl,_⟩:=ah.seg o1
  obtain ⟨vb,vd,rfl,_⟩:=ai.seg o2
  clear o1 o2
  have o1:=O1.out
  have o2:=O2.out
  go_wp2_with fail;refine au w zB fun bb=>?_;refine au w2 zB fun bk=>?_;refine (BS _ _ _ _ _).mono ?_;rintro _ w3 ⟨rfl,d1,d2,aC⟩;have iG:=bT bb aC;have bM:=aC.size;(try simp at bM);have zz:=And.intro (DV aC (b:=w2.heap.size)) <| And.intro (DV aC (b:=w.heap.size+1)) <| DV aC (b:=w.heap.size);(first|simp [go_sem,bX] at zz|simp [go_sem] at zz|skip);replace bX:=zz;clear zz;have tN:=bT bk aC;clear aC bb bk
  simp at d1 d2
  have q1:=own_below o1 tN
  have q2:=own_below o2 tN
  have b2:=fun j (hj:(Value.slice vb c.words.length vd).ownBlock=some j)=>o2.lt j hj
  have JU:some (w.heap.size+1)≠(Value.slice vb c.words.length vd).ownBlock:=fun e=>by have:=(b2 _ e.symm).1;omega
  have JV:some w2.heap.size≠(Value.slice vb c.words.length vd).ownBlock:=fun e=>by have:=(b2 _ e.symm).2;omega
  have LV:some w.heap.size≠(Value.slice vb c.words.length vd).ownBlock:=fun e=>by have:=(b2 _ e.symm).1;omega
  go_wp2_with fail
  go_region_with (first|(refine (zk c v x (w2.heap.size+1) (w2.heap.size+1+1) (.slice vb c.words.length vd) w1.heap.size _ (zO q2 o2) (by simpa [go_sem] using d1) (by simpa [go_sem] using d2) m2).mono ?_;rintro _ w4 ⟨rfl,p2,hg4⟩;have gu:=hg4.size;(try (simp at gu));have zz:=And.intro (fun o=>hg4.cell_far ⟨w2.heap.size,o,none⟩ tS (by assumption)) <| And.intro (fun o=>hg4.frozen_far ⟨w2.heap.size,o,none⟩ tS (by assumption)) <| And.intro (fun o=>hg4.cell_far ⟨w.heap.size+1,o,none⟩ tS (by assumption)) <| And.intro (fun o=>hg4.frozen_far ⟨w.heap.size+1,o,none⟩ tS (by assumption)) <| And.intro (fun o=>hg4.cell_far ⟨w.heap.size,o,none⟩ tS (by assumption)) <| fun o=>hg4.frozen_far ⟨w.heap.size,o,none⟩ tS (by assumption);(try simp [go_sem] at zz);(try clear LW LX);(try clear dS dZ);(try clear di dC);obtain ⟨LW,LX,dS,dZ,di,dC⟩:=zz;(try clear EL);have EL:w2.heap.size<w4.heap.size:=tO;(try clear dz);have dz:w.heap.size+1<w4.heap.size:=tO;(try clear bV);have bV:w.heap.size<w4.heap.size:=tO;have p1:=(World.ownsRow.drew q1).kept hg4 (wh q1 q2);have hB4:Below w.heap.size w w4:=lI zB hg4 tS (fun k hk=>by have:=(b2 k hk).1;omega)))
  all_goals go_wp2
  all_goals (obtain ⟨e1,e2⟩:=E.out;obtain ⟨f1,f2,f3,f4,f5⟩:=FF.out;rw [e1,e2,f1,f2,f3,f4,f5])
  all_goals (refine bodyPost_ret (v:=.tuple #[.agg #[.int .i64 c.cap,.int .i64 c.sent,.int .i64 c.got,.int .i64 c.fin,.slice va c.cells.length vc,.slice vb c.words.length vd],.bool (eU c v x)]) (by simp [results,Tryz.results68,go_sem, *]) rfl ⟨⟨_,_,rfl,ay (lo:=w1.heap.size) ?_ tO,ay (lo:=w1.heap.size) ?_ tO⟩,by exact zB⟩)
  all_goals (have P1:ah _ _ _ _:=p1)
  all_goals first|(repeat first|with_reducible exact p2|with_reducible refine xS ?_ _|with_reducible refine uZ ?_|((with_reducible first|refine bP ?_ ?_ _|refine fI ?_ ?_);rotate_left;focus first|(refine own_ne o2 ?_;(try dsimp only);omega)|(refine fU o2 ?_;(try dsimp only);omega)))|skip
  all_goals first|(repeat first|with_reducible exact p1|with_reducible refine xS ?_ _|with_reducible refine uZ ?_|((with_reducible first|refine bP ?_ ?_ _|refine fI ?_ ?_);rotate_left;focus first|(refine own_ne o1 ?_;(try dsimp only);omega)|(refine fU o1 ?_;(try dsimp only);omega)))|skip
 ·have hc2:aG c=false:=by simpa using hc
  obtain ⟨e1,e2⟩:=Kr (v:=v) (x:=x) hc2
  have E:=Lib.hid (And.intro e1 e2)
  clear e1 e2 hc
  go_enter Tryz.func68,Tryz.ntmps68
  go_wp2_with fail;refine au w zB fun bb=>?_;refine (fF c a b p q _ (aT H1 bb) (aT H2 bb) n1 n2).mono ?_;rintro _ w1 ⟨rfl,ag⟩;have aV:=bT bb ag;have ak:=ag.size;(try simp at ak);have zz:=And.intro (DV ag (b:=w.heap.size+1)) <| DV ag (b:=w.heap.size);(try simp [go_sem] at zz);replace bX:=zz;clear zz ag bb
  rw [hc2]
  go_wp2
  rw [E.out.1,E.out.2]
  refine bodyPost_ret (v:=.tuple #[.agg #[.int .i64 Ch.zero.cap,.int .i64 Ch.zero.sent,.int .i64 Ch.zero.got,.int .i64 Ch.zero.fin,.slice none 0 0,.slice none 0 0],.bool false]) (by simp [results,Tryz.results68,go_sem,Ch.zero, *]) rfl ⟨⟨_,_,rfl,World.ownsRow_nil _ _ _ _,World.ownsRow_nil _ _ _ _⟩,by exact zB⟩
end
section
open Go.RowKit
theorem Hz {c:Ch} (h:aG c=false):mr c=Ch.zero∧rH c=0:=by simp [mr,rH,h]
theorem rJ {c:Ch} (h:aG c=true) (h2:80≤c.words.length):mr c=c∧rH c=0:=by simp [mr,rH,h,h2]
theorem rM {c:Ch} (h:aG c=true) (h2:¬ 80≤c.words.length):mr c={ c with words:=c.words ++ [0] }∧rH c=c.words.length+1:=by simp [mr,rH,h,h2]
theorem rO (c:Ch) (a b:Option Addr) (p q:Nat) (w:World) (h1:eY w w.heap.size a c.cells) (z1:a=none→p=0) (h2:eZ w w.heap.size b c.words) (z2:b=none→q=0) (m1:c.cells.length≤1099511627776) (m2:c.words.length≤1099511627776) :
  Calls Tryz.prog 257 #[.agg #[.int .i64 c.cap,.int .i64 c.sent,.int .i64 c.got,.int .i64 c.fin,.slice a c.cells.length p,.slice b c.words.length q]] w fun r w' =>
   (∃ v1 v2,r=.returned (.tuple #[.agg #[.int .i64 (mr c).cap,.int .i64 (mr c).sent,.int .i64 (mr c).got,.int .i64 (mr c).fin,v1,v2],.int .i64 (rH c)])∧ah w' w.heap.size v1 (mr c).cells∧ai w' w.heap.size v2 (mr c).words)∧Below w.heap.size w w':=by
 have H1:=Lib.hid h1
 have H2:=Lib.hid h2
 have Z1:=Lib.hid z1
 have Z2:=Lib.hid z2
 have n1:c.cells.length≤maxLen:=by unfold maxLen;omega
 have n2:c.words.length≤maxLen:=by unfold maxLen;omega
 clear h1 h2 z1 z2
 by_cases hc:aG c=true
 ·by_cases hf:80≤c.words.length
  ·have OI:c.words.length=80:=by
    have:=hc
    simp [aG,fo] at this
    omega
   have E:=Lib.hid (rJ hc hf)
   have hfi:(80:Int)≤(c.words.length:Int):=by omega
   have Qc:Hid ((c.words.length:Int)=80):=Lib.hid tO
   clear OI
   go_enter Tryz.func257,Tryz.ntmps257
   go_wp2_with fail;refine au w zB fun bb=>?_;refine (fF c a b p q _ (aT H1 bb) (aT H2 bb) n1 n2).mono ?_;rintro _ w1 ⟨rfl,ag⟩;have aV:Below w.heap.size w w1:=bT bb ag;have ak:=ag.size;(try simp at ak);have zz:=And.intro (fun o=>ag.cell (p:=⟨w.heap.size+1,o,none⟩) tS) <| And.intro (fun o=>ag.frozen (p:=⟨w.heap.size+1,o,none⟩) tS) <| And.intro (fun o=>ag.cell (p:=⟨w.heap.size,o,none⟩) tS) <| fun o=>ag.frozen (p:=⟨w.heap.size,o,none⟩) tS;(try simp [go_sem] at zz);(try clear dS dZ);(try clear di dC);obtain ⟨dS,dZ,di,dC⟩:=zz;(try clear dz);have dz:w.heap.size+1<w1.heap.size:=tO;(try clear bV);have bV:w.heap.size<w1.heap.size:=tO;clear ag bb
   rw [hc]
   go_wp2_with fail;refine au w zB fun bb=>?_;refine (lS c a b p q _ (aT H1 bb) Z1.out (aT H2 bb) Z2.out m1 m2).mono ?_;rintro _ w2 ⟨⟨v1,v2,rfl,o1,o2⟩,hbw2⟩;have dh:Below w.heap.size w w2:=bT bb hbw2;have aR:=hbw2.size;(try simp at aR);have zz:=And.intro (fun o=>hbw2.cell (p:=⟨w.heap.size+1,o,none⟩) tS) <| And.intro (fun o=>hbw2.frozen (p:=⟨w.heap.size+1,o,none⟩) tS) <| And.intro (fun o=>hbw2.cell (p:=⟨w.heap.size,o,none⟩) tS) <| fun o=>hbw2.frozen (p:=⟨w.heap.size,o,none⟩) tS;(first|simp [go_sem,dS,dZ,di,dC,bV,dz] at zz|simp [go_sem,dS,di,bV,dz] at zz|simp [go_sem] at zz|skip);(try clear dS dZ);(try clear di dC);obtain ⟨dS,dZ,di,dC⟩:=zz;(try clear dz);have dz:w.heap.size+1<w2.heap.size:=tO;(try clear bV);have bV:w.heap.size<w2.heap.size:=tO;clear hbw2 bb
   try simp at o1 o2
   have O1:=Lib.hid o1
   have O2:=Lib.hid o2
   obtain ⟨va,vc,rfl,_⟩:=ah.seg o1
   obtain ⟨vb,vd,rfl,_⟩:=ai.seg o2
   clear o1 o2
   have hfe:=Qc.out
   go_wp2_with fail
   have o1:=O1.out
   have o2:=O2.out
   obtain ⟨e1,e2⟩:=E.out
   rw [e1,e2]
   refine bodyPost_ret (v:=.tuple #[.agg #[.int .i64 c.cap,.int .i64 c.sent,.int .i64 c.got,.int .i64 c.fin,.slice va c.cells.length vc,.slice vb c.words.length vd],.int .i64 0]) (by simp [results,Tryz.results257,go_sem, *]) rfl ⟨⟨_,_,rfl,ay (lo:=w1.heap.size) ?_ tO,ay (lo:=w1.heap.size) ?_ tO⟩,by exact zB⟩
   ·exact zO o1 o1
   ·exact zO o2 o2
  ·have E:=Lib.hid (rM hc hf)
   have hfi:¬ (80:Int)≤(c.words.length:Int):=by omega
   have hfe:(c.words.length:Int)≠80:=by omega
   obtain ⟨i0,hi0,hz0,hz1,hz2⟩:=info_parts jI
   go_enter Tryz.func257,Tryz.ntmps257
   go_wp2_with fail;refine au w zB fun bb=>?_;refine (fF c a b p q _ (aT H1 bb) (aT H2 bb) n1 n2).mono ?_;rintro _ w1 ⟨rfl,ag⟩;have aV:Below w.heap.size w w1:=bT bb ag;have ak:=ag.size;(try simp at ak);have zz:=And.intro (fun o=>ag.cell (p:=⟨w.heap.size+1,o,none⟩) tS) <| And.intro (fun o=>ag.frozen (p:=⟨w.heap.size+1,o,none⟩) tS) <| And.intro (fun o=>ag.cell (p:=⟨w.heap.size,o,none⟩) tS) <| fun o=>ag.frozen (p:=⟨w.heap.size,o,none⟩) tS;(try simp [go_sem] at zz);(try clear dS dZ);(try clear di dC);obtain ⟨dS,dZ,di,dC⟩:=zz;(try clear dz);have dz:w.heap.size+1<w1.heap.size:=tO;(try clear bV);have bV:w.heap.size<w1.heap.size:=tO;clear ag bb
   rw [hc]
   go_wp2_with fail;refine au w zB fun bb=>?_;refine (lS c a b p q _ (aT H1 bb) Z1.out (aT H2 bb) Z2.out m1 m2).mono ?_;rintro _ w2 ⟨⟨v1,v2,rfl,o1,o2⟩,hbw2⟩;have dh:Below w.heap.size w w2:=bT bb hbw2;have aR:=hbw2.size;(try simp at aR);have zz:=And.intro (fun o=>hbw2.cell (p:=⟨w.heap.size+1,o,none⟩) tS) <| And.intro (fun o=>hbw2.frozen (p:=⟨w.heap.size+1,o,none⟩) tS) <| And.intro (fun o=>hbw2.cell (p:=⟨w.heap.size,o,none⟩) tS) <| fun o=>hbw2.frozen (p:=⟨w.heap.size,o,none⟩) tS;(first|simp [go_sem,dS,dZ,di,dC,bV,dz] at zz|simp [go_sem,dS,di,bV,dz] at zz|simp [go_sem] at zz|skip);(try clear dS dZ);(try clear di dC);obtain ⟨dS,dZ,di,dC⟩:=zz;(try clear dz);have dz:w.heap.size+1<w2.heap.size:=tO;(try clear bV);have bV:w.heap.size<w2.heap.size:=tO;clear hbw2 bb
   try simp at o1 o2
   have O1:=Lib.hid o1
   have O2:=Lib.hid o2
   obtain ⟨va,vc,rfl,_⟩:=ah.seg o1
   obtain ⟨vb,vd,rfl,_⟩:=ai.seg o2
   clear o1 o2
   have o1:=O1.out
   have o2:=O2.out
   have b2:=fun j (hj:(Value.slice vb c.words.length vd).ownBlock=some j)=>o2.lt j hj
   have mw:∀ j,j<w1.heap.size∨w2.heap.size≤j→some j≠(Value.slice vb c.words.length vd).ownBlock:=fun j hj e=>by have:=b2 _ e.symm;omega
   have PS:=mw w.heap.size tO
   have PT:=mw (w.heap.size+1) tO
   have PU:=mw w2.heap.size tO
   go_wp2_with (at_builtin;refine wpList_append_lies _ rfl _ _ 29 rfl w1.heap.size 2 i0 _ 1 8 Tryz.underlying29 hi0 hz0 hz1 hz2 rfl (by decide) (.slice vb c.words.length vd) c.words.length (ints c.words) rfl (World.ownsRow.alloc (World.ownsRow.alloc o2 _) _) ⟨w2.heap.size+1,0,none⟩ 1 1 [.int .i64 0] rfl rfl ?c2 (by simp [Value.oneCell']) tO ?c3 ?c4 ?c5 (w2.heap.size+1+1) (by simp) ?_)
   case c2=>have:=cell_one_new (w2.alloc (.cells #[.int .i64 c.cap,.int .i64 c.sent,.int .i64 c.got,.int .i64 c.fin,.slice va c.cells.length vc,.slice vb c.words.length vd] 31)) (.int .i64 0) 2;simpa using this
   case c3=>unfold maxLen;omega
   case c4=>omega
   case c5=>simp;omega
   intro Ji q4 w4 o4 g4 hat Ni
   have EL:w2.heap.size<w2.heap.size+1:=by omega
   have gu:=g4.size;(try (simp at gu));have zz:=And.intro (fun o=>g4.cell_far ⟨w2.heap.size,o,none⟩ tS (by assumption)) <| And.intro (fun o=>g4.frozen_far ⟨w2.heap.size,o,none⟩ tS (by assumption)) <| And.intro (fun o=>g4.cell_far ⟨w.heap.size+1,o,none⟩ tS (by assumption)) <| And.intro (fun o=>g4.frozen_far ⟨w.heap.size+1,o,none⟩ tS (by assumption)) <| And.intro (fun o=>g4.cell_far ⟨w.heap.size,o,none⟩ tS (by assumption)) <| fun o=>g4.frozen_far ⟨w.heap.size,o,none⟩ tS (by assumption);(first|simp [go_sem,dS,dZ,di,dC,bV,EL,dz] at zz|simp [go_sem,dS,di,bV,EL,dz] at zz|simp [go_sem] at zz|skip);(try clear LW LX);(try clear dS dZ);(try clear di dC);obtain ⟨LW,LX,dS,dZ,di,dC⟩:=zz;(try clear EL);have EL:w2.heap.size<w4.heap.size:=tO;(try clear dz);have dz:w.heap.size+1<w4.heap.size:=tO;(try clear bV);have bV:w.heap.size<w4.heap.size:=tO
   have p1:ah w4 w1.heap.size (.slice va c.cells.length vc) c.cells:=((World.ownsRow.alloc (World.ownsRow.alloc o1 _) _)).kept g4 (wh o1 o2)
   have p2:ai w4 w1.heap.size (.slice (some ⟨Ji,0,none⟩) (c.words.length+1) q4) (c.words ++ [0]):=ai.snoc o4
   have hgb:∀ j,j<w1.heap.size∨(w2.heap.size≤j∧j<w2.heap.size+1)→(Value.slice (some ⟨Ji,0,none⟩) (c.words.length+1) q4).ownBlock≠some j:=fun j h1 e=>by
    have e2:Ji=j:=by simpa [Value.ownBlock] using e
    rcases hat with hat|hat
    ·have:=b2 _ hat;omega
    ·omega
   have hB4:Below w.heap.size w w4:=lI zB g4 tS (fun k hk=>by have:=(b2 k hk).1;omega)
   clear o4 g4
   go_wp2_with fail
   go_region
   all_goals go_wp2_with fail
   all_goals (obtain ⟨e1,e2⟩:=E.out;rw [e1,e2])
   all_goals refine bodyPost_ret (v:=.tuple #[.agg #[.int .i64 c.cap,.int .i64 c.sent,.int .i64 c.got,.int .i64 c.fin,.slice va c.cells.length vc,.slice (some ⟨Ji,0,none⟩) (c.words.length+1) q4],.int .i64 (c.words.length+1)]) (by simp [results,Tryz.results257,go_sem, *]) rfl ⟨⟨_,_,rfl,ay (lo:=w1.heap.size) ?_ tO,ay (lo:=w1.heap.size) ?_ tO⟩,by exact zB⟩
   all_goals first|(repeat first|with_reducible exact p1|with_reducible refine xS ?_ _|with_reducible refine uZ ?_|((with_reducible first|refine bP ?_ ?_ _|refine fI ?_ ?_);rotate_left;focus first|(refine own_ne o1 ?_;(try dsimp only);omega)|(refine fU o1 ?_;(try dsimp only);omega)))|skip
   all_goals (first|(repeat first|with_reducible exact p2|with_reducible refine xS ?_ _|with_reducible refine uZ ?_|((with_reducible first|refine bP ?_ ?_ _|refine fI ?_ ?_);rotate_left;focus first|(refine own_ne p2 ?_;(try dsimp only);omega)|(refine fU p2 ?_;(try dsimp only);omega)|exact hgb _ (by (try dsimp only) <;> omega)))|skip)
 ·have hc2:aG c=false:=by simpa using hc
  have E:=Lib.hid (Hz hc2)
  clear hc
  go_enter Tryz.func257,Tryz.ntmps257
  go_wp2_with fail;refine au w zB fun bb=>?_;refine (fF c a b p q _ (aT H1 bb) (aT H2 bb) n1 n2).mono ?_;rintro _ w1 ⟨rfl,ag⟩;have aV:Below w.heap.size w w1:=bT bb ag;have ak:=ag.size;(try simp at ak);have zz:=And.intro (fun o=>ag.cell (p:=⟨w.heap.size+1,o,none⟩) tS) <| And.intro (fun o=>ag.frozen (p:=⟨w.heap.size+1,o,none⟩) tS) <| And.intro (fun o=>ag.cell (p:=⟨w.heap.size,o,none⟩) tS) <| fun o=>ag.frozen (p:=⟨w.heap.size,o,none⟩) tS;(try simp [go_sem] at zz);(try clear dS dZ);(try clear di dC);obtain ⟨dS,dZ,di,dC⟩:=zz;(try clear dz);have dz:w.heap.size+1<w1.heap.size:=tO;(try clear bV);have bV:w.heap.size<w1.heap.size:=tO;clear ag bb
  rw [hc2]
  go_wp2
  rw [E.out.1,E.out.2]
  refine bodyPost_ret (v:=.tuple #[.agg #[.int .i64 Ch.zero.cap,.int .i64 Ch.zero.sent,.int .i64 Ch.zero.got,.int .i64 Ch.zero.fin,.slice none 0 0,.slice none 0 0],.int .i64 0]) (by simp [results,Tryz.results257,go_sem,Ch.zero, *]) rfl ⟨⟨_,_,rfl,World.ownsRow_nil _ _ _ _,World.ownsRow_nil _ _ _ _⟩,by exact zB⟩
end
section
open Go.RowKit
attribute [local simp] aI
attribute [local go_sem ↓] aH aU aM bz aN bB aA aK ax aB
end
end Go.Proofs.YtffhjmepfojhnaaGreat
