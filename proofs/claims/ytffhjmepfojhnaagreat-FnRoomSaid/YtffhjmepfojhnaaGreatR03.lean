/-
  The reference model's copies of lists and of a channel: the same in new memory; lists lie in memory and hold at most 2 ^ 40 elements.
-/
import Derived.Test.YtffhjmepfojhnaaGreatR01
set_option maxRecDepth 100000
set_option maxHeartbeats 1000000
set_option linter.unusedSimpArgs false
set_option linter.unusedVariables false
namespace Go.Proofs.YtffhjmepfojhnaaGreat
section
open Go.RowKit
theorem tJ (l:List Int) (b:Option Addr) (q:Nat) (w:World) (h:eQ w w.heap.size b l) (hz:b=none→q=0) (hm:l.length≤1099511627776) :
  Calls Tryz.prog 172 #[.slice b l.length q] w fun r w'=>(∃ v,r=.returned v∧ai w' w.heap.size v l)∧Below w.heap.size w w':=by
 obtain ⟨i0,hi0,hz0,hz1,hz2⟩:=info_parts ku
 rcases b with _|⟨bb,bo,sp⟩
 ·obtain rfl:=hz rfl
  have hn:l.length=0:=by rcases h with h|⟨_,_,h,_⟩;exact h;cases h
  obtain rfl:l=[]:=List.eq_nil_of_length_eq_zero hn
  go_enter Tryz.func172,Tryz.ntmps172
  go_wp2_with (at_builtin;refine wpList_append_own_none rfl _ _ 29 rfl w.heap.size 2 i0 1 Tryz.underlying29 hi0 _ 0 [] rfl (mH _ _ _ _ (Nat.le_refl _)) rfl ?_)
  go_ret
  exact ⟨⟨_,rfl,mH _ _ _ _ (Nat.le_refl _)⟩,by exact zB⟩
 ·have HN:Hid (∀ j u,(ints l)[j]?=some u→w.cell? ((⟨bb,bo,sp⟩:Addr).add j)=some u):=by
   rcases h with h0|⟨b',o',e,h1,h2⟩
   ·obtain rfl:l=[]:=List.eq_nil_of_length_eq_zero h0
    intro j u hu;simp [ints] at hu
   ·simp at e
    obtain ⟨rfl,rfl,rfl⟩:=e
    exact Seg.newsI (.inr ⟨bb,bo,rfl,h1,h2⟩)
  clear h hz
  go_enter Tryz.func172,Tryz.ntmps172
  go_wp2_with (at_builtin;refine wpList_append_own _ rfl _ _ 29 rfl w.heap.size 2 i0 _ 1 8 Tryz.underlying29 hi0 hz0 hz1 hz2 rfl (by decide) _ 0 [] rfl (mH _ _ _ _ (Nat.le_refl _)) ⟨bb,bo,sp⟩ l.length q (ints l) rfl (by simp [ints]) ?c0 (zV l) ?c3 ?c4 ?c5 ?_)
  case c0=>exact fun j u hu=>gQ (HN.out j u hu)
  case c3=>unfold maxLen;omega
  case c4=>omega
  case c5=>simp
  intro v w1 hown hg _
  go_wp2
  go_ret
  exact ⟨⟨_,rfl,by simpa using hown⟩,iE zB hg (by simp) (by simp [Value.ownBlock])⟩
theorem xh:(Tryz.prog.info? 93).map (fun i=>(i.zero,i.size,i.bytes))=some (some (.agg #[.int .i64 0,.int .i64 0,.int .i64 0]),3,24):=by kernel_rfl
theorem tK (c:Ch) (a b:Option Addr) (p q:Nat) (w:World) (h1:eY w w.heap.size a c.cells) (z1:a=none→p=0) (h2:eQ w w.heap.size b c.words) (z2:b=none→q=0) (m1:c.cells.length≤1099511627776) (m2:c.words.length≤1099511627776) :
  Calls Tryz.prog 123 #[.agg #[.int .i64 c.cap,.int .i64 c.sent,.int .i64 c.got,.int .i64 c.fin,.slice a c.cells.length p,.slice b c.words.length q]] w fun r w' =>
   (∃ v1 v2,r=.returned (.agg #[.int .i64 c.cap,.int .i64 c.sent,.int .i64 c.got,.int .i64 c.fin,v1,v2])∧ag w' w.heap.size v1 c.cells∧ai w' w.heap.size v2 c.words)∧Below w.heap.size w w':=by
 obtain ⟨i0,hi0,hz0,hz1,hz2⟩:=info_parts xh
 obtain ⟨cap,sent,got,fin,cells,words⟩:=c
 simp only at *
 have H2:=Lib.hid h2
 have Z2:=Lib.hid z2
 clear h2 z2
 rcases a with _|⟨bb,bo,sp⟩
 ·obtain rfl:=z1 rfl
  have hn:cells.length=0:=by rcases h1 with h|⟨_,_,h,_⟩;exact h;cases h
  obtain rfl:cells=[]:=List.eq_nil_of_length_eq_zero hn
  clear h1 z1 hn m1
  go_enter Tryz.func123,Tryz.ntmps123
  go_wp2_with (at_builtin;refine wpList_append_own_none rfl _ _ 28 rfl (w.heap.size+1+1) 93 i0 3 Tryz.underlying28 hi0 _ 0 [] rfl (gu _ _ _ _ _ (by simp) (by simp)) rfl ?_)
  refine (tJ words b q _ ((H2.out.below zB).more (by simp;try omega)) Z2.out m2).mono ?_
  rintro _ w2 ⟨⟨v2,rfl,hown2⟩,hb2⟩
  have hown3:ag w2 (w.heap.size+1+1) (.slice (some ⟨w.heap.size+1+1,0,none⟩) 0 0) []:=own_below (gu _ _ _ _ _ (by simp) (by simp)) hb2
  have kJ:=av hown2 (lo':=w.heap.size+1+1) (by simp;try omega)
  obtain ⟨vb,vd,rfl,_⟩:=ai.seg hown2
  clear hown2
  have hs2:=hb2.size
  simp at hs2
  have hB2:Below w.heap.size w w2:=bT zB hb2
  have:=fun o=>hb2.cell (p:=⟨w.heap.size,o,none⟩) (by simp;try omega)
  have:=fun o=>hb2.cell (p:=⟨w.heap.size+1,o,none⟩) (by simp;try omega)
  have:=fun o=>hb2.frozen (p:=⟨w.heap.size,o,none⟩) (by simp;try omega)
  have:=fun o=>hb2.frozen (p:=⟨w.heap.size+1,o,none⟩) (by simp;try omega)
  clear hb2
  have:w.heap.size<w.heap.size+1+1:=by omega
  have:w.heap.size≤w.heap.size+1:=by omega
  go_wp2_with fail
  refine bodyPost_ret (v:=.agg #[.int .i64 cap,.int .i64 sent,.int .i64 got,.int .i64 fin,.slice (some ⟨w.heap.size+1+1,0,none⟩) 0 0,.slice vb words.length vd]) (by simp [results,Tryz.results123,go_sem, *]) rfl ⟨⟨_,_,rfl,?_,?_⟩,?_⟩
  ·refine av (lo:=w.heap.size+1+1) ?_ tO
   repeat (first|with_reducible exact hown3|((with_reducible refine aS ?_ ?_ _);rotate_left;(focus exact own_ne hown3 (by (try simp);try omega))))
  ·refine av (lo:=w.heap.size+1+1) ?_ tO
   repeat (first|with_reducible exact kJ|((with_reducible refine aS ?_ ?_ _);rotate_left;(focus exact own_ne kJ (by (try simp);try omega))))
  ·exact zB
 ·have HN:Hid (∀ j u,(iJ cells)[j]?=some u→w.cell? ((⟨bb,bo,sp⟩:Addr).add j)=some u):=by
   rcases h1 with h0|⟨b',o',e,h1,h2⟩
   ·obtain rfl:cells=[]:=List.eq_nil_of_length_eq_zero h0
    intro j u hu;simp [iJ] at hu
   ·simp at e
    obtain ⟨rfl,rfl,rfl⟩:=e
    exact Seg.newsC (.inr ⟨bb,bo,rfl,h1,h2⟩)
  clear h1 z1
  go_enter Tryz.func123,Tryz.ntmps123
  go_wp2_with (at_builtin;refine wpList_append_own _ rfl _ _ 28 rfl (w.heap.size+1+1) 93 i0 _ 3 24 Tryz.underlying28 hi0 hz0 hz1 hz2 rfl (by decide) _ 0 [] rfl (gu _ _ _ _ _ (by simp) (by simp;try omega)) ⟨bb,bo,sp⟩ cells.length p (iJ cells) rfl (iT cells) ?c0 (wS cells) ?c3 ?c4 ?c5 ?_)
  case c0=>exact fun j u hu=>gQ (gQ (gQ (HN.out j u hu)))
  case c3=>unfold maxLen;omega
  case c4=>omega
  case c5=>(simp;try omega)
  intro v w1 hown hg _
  simp [Value.ownBlock] at hg
  have hs1:=hg.size
  simp at hs1
  have:=NA (b:=w.heap.size) hg (by simp;omega) tO
  have:=NA (b:=w.heap.size+1) hg (by simp) tO
  have:=NB (b:=w.heap.size) hg (by simp;omega) tO
  have:=NB (b:=w.heap.size+1) hg (by simp) tO
  have:w.heap.size<w1.heap.size:=by omega
  have:w.heap.size≤w1.heap.size:=by omega
  have hB1:Below w.heap.size w w1:=iE zB hg (by simp;omega) (by simp;omega)
  have hown1:ag w1 (w.heap.size+1+1) v cells:=by simpa using hown
  clear hown
  obtain ⟨va,vc,rfl,_⟩:=ag.seg hown1
  go_wp2_with fail
  refine (tJ words b q _ ((H2.out.below hB1).setOther (by simp [World.setCell];omega) (by simp)) Z2.out m2).mono ?_
  rintro _ w2 ⟨⟨v2,rfl,hown2⟩,hb2⟩
  have hown3:=own_below (aS hown1 (p:=⟨w.heap.size,4,none⟩) (own_ne hown1 (by (try simp);try omega)) (.slice va cells.length vc)) hb2
  have kJ:=av hown2 (lo':=w.heap.size+1+1) (by simp [World.setCell];omega)
  obtain ⟨vb,vd,rfl,_⟩:=ai.seg hown2
  clear hown2
  have hs2:=hb2.size
  simp [World.setCell] at hs2
  have hB2:Below w.heap.size w w2:=bT zB hb2
  have:=fun o=>hb2.cell (p:=⟨w.heap.size,o,none⟩) (by simp [World.setCell];omega)
  have:=fun o=>hb2.cell (p:=⟨w.heap.size+1,o,none⟩) (by simp [World.setCell];omega)
  have:=fun o=>hb2.frozen (p:=⟨w.heap.size,o,none⟩) (by simp [World.setCell];omega)
  have:=fun o=>hb2.frozen (p:=⟨w.heap.size+1,o,none⟩) (by simp [World.setCell];omega)
  clear hb2
  have:w.heap.size<w.heap.size+1+1:=by omega
  have:w.heap.size≤w.heap.size+1:=by omega
  go_wp2_with fail
  refine bodyPost_ret (v:=.agg #[.int .i64 cap,.int .i64 sent,.int .i64 got,.int .i64 fin,.slice va cells.length vc,.slice vb words.length vd]) (by simp [results,Tryz.results123,go_sem, *]) rfl ⟨⟨_,_,rfl,?_,?_⟩,?_⟩
  ·refine av (lo:=w.heap.size+1+1) ?_ tO
   repeat (first|with_reducible exact hown3|((with_reducible refine aS ?_ ?_ _);rotate_left;(focus exact own_ne hown3 (by (try simp);try omega))))
  ·refine av (lo:=w.heap.size+1+1) ?_ tO
   repeat (first|with_reducible exact kJ|((with_reducible refine aS ?_ ?_ _);rotate_left;(focus exact own_ne kJ (by (try simp);try omega))))
  ·exact zB
end
section
open Go.RowKit
theorem ru (c:Ch) (v:Int) (a b:Option Addr) (p q:Nat) (w:World) :
  Calls Tryz.prog 124 #[.agg #[.int .i64 c.cap,.int .i64 c.sent,.int .i64 c.got,.int .i64 c.fin,.slice a c.cells.length p,.slice b c.words.length q],.int .i64 v] w fun r w'=>r=.returned (.bool (kF c v))∧Below w.heap.size w w':=by
 go_enter Tryz.func124,Tryz.ntmps124
 go_wp2_with (go_at_call 121;refine (fQ _ _ _ _).mono ?_;rintro _ _ ⟨rfl,rfl⟩)
 go_ret
 exact ⟨rfl,by exact zB⟩
theorem nY {c:Ch} {v:Int}:kF c v=true↔1≤v∧v≤c.words.length:=by simp [kF,dm]
theorem xk {c:Ch} {v:Int} (h:(aK c && kF c v)=false):-1=gL c v:=by simp [gL,h]
theorem CR {c:Ch} {v:Int} (h1:aK c=true) (h2:kF c v=true):eF c v=gL c v:=by simp [gL,h1,h2]
end
section
open Go.RowKit
theorem xm {c:Ch} {v x:Int} (h:kF c v=false):fo c v x=false:=by simp [fo,h]
theorem nZ {c:Ch} {v x:Int} (h:fo c v x=false):dN c v x=c:=by simp [dN,h]
theorem ai.open1 {w:World} {lo:Nat} {v:Value} {l:List Int} (h:ai w lo v l) {i:Nat} (hi:i<l.length) :
  ∃ g cap,v=.slice (some ⟨g,0,none⟩) l.length cap∧lo≤g∧g<w.heap.size∧w.cell? ⟨g,i,none⟩=some (.int .i64 (l.getD i 0))∧∀ o,w.frozen? ⟨g,o,none⟩=false:=by
 have h2:=h
 rcases h.2 with ⟨_,h0⟩|⟨g,cap,cur,rfl,hl,hg,_⟩
 ·omega
 ·refine ⟨g,cap,rfl,hl,(Array.getElem?_eq_some_iff.1 hg).1,?_,fun o=>by simp [World.frozen?,hg]⟩
  have:=h2.cells (g:=g) rfl i (.int .i64 (l.getD i 0)) (by simp [ints,List.getD,hi])
  rw [← this];congr 1;by_cases e:i=0 <;> simp [Addr.add,e]
theorem ai.set {w:World} {lo g cap:Nat} {l:List Int} (h:ai w lo (.slice (some ⟨g,0,none⟩) l.length cap) l) {i:Nat} (hi:i<l.length) (x:Int) :
  ai (w.setCell ⟨g,i,none⟩ (.int .i64 x)) lo (.slice (some ⟨g,0,none⟩) l.length cap) (l.set i x):=by
 have:=iU h i (by rw [sV];exact hi) (.int .i64 x)
 unfold ai
 rw [ints_set,List.length_set]
 exact this
theorem gI {w:World} {lo:Nat} {e:TypeId} {k n:Nat} {v:Value} {xs:List Value} (h:w.ownsRow lo e k v n xs) {b:Nat} (hb:w.heap.size≤b):v.ownBlock≠some b:=fun he=>by have:=(h.lt b he).2;omega
theorem ag.ne {w:World} {lo lo':Nat} {v v':Value} {cs:List C3} {l:List Int} (h:ag w lo v cs) (h':ai w lo' v' l) (i:Nat) (hi:v.ownBlock=some i):v'.ownBlock≠some i:=by
 intro hi'
 rcases h.2 with ⟨rfl,_⟩|⟨g,cap,cur,rfl,_,hg,_⟩
 ·cases hi
 rcases h'.2 with ⟨rfl,_⟩|⟨g',cap',cur',rfl,_,hg',_⟩
 ·cases hi'
 simp [Value.ownBlock] at hi hi'
 subst hi hi'
 rw [hg] at hg'
 simp at hg'
theorem xX {w:World} {lo lo':Nat} {v v':Value} {cs:List C3} {l:List Int} (h:ag w lo v cs) (h':ai w lo' v' l):v.ownBlock=none∨v.ownBlock≠v'.ownBlock:=by
 cases e:v.ownBlock with
 | none=>exact .inl rfl
 | some j=>exact .inr fun e2=>ag.ne h h' j e e2.symm
theorem CS (c:Ch) (v x:Int) (a b:Option Addr) (p q:Nat) (w:World) (h1:eY w w.heap.size a c.cells) (z1:a=none→p=0) (h2:eQ w w.heap.size b c.words) (z2:b=none→q=0) (m1:c.cells.length≤1099511627776) (m2:c.words.length≤1099511627776) :
  Calls Tryz.prog 72 #[.agg #[.int .i64 c.cap,.int .i64 c.sent,.int .i64 c.got,.int .i64 c.fin,.slice a c.cells.length p,.slice b c.words.length q],.int .i64 v,.int .i64 x] w fun r w' =>
   (∃ v1 v2,r=.returned (.tuple #[.agg #[.int .i64 c.cap,.int .i64 c.sent,.int .i64 c.got,.int .i64 c.fin,v1,v2],.bool (fo c v x)])∧ag w' w.heap.size v1 c.cells∧ai w' w.heap.size v2 (dN c v x).words)∧Below w.heap.size w w':=by
 have H1:=Lib.hid h1
 have H2:=Lib.hid h2
 have Z1:=Lib.hid z1
 have Z2:=Lib.hid z2
 clear h1 h2 z1 z2
 go_enter Tryz.func72,Tryz.ntmps72
 go_wp2_with fail;refine ax w zB fun bb=>?_;refine (tK c a b p q _ ((H1.out.below bb).more bb.size) Z1.out ((H2.out.below bb).more bb.size) Z2.out m1 m2).mono ?_;rintro _ w1 ⟨⟨v1,v2,rfl,o1,o2⟩,ah⟩;have aW:Below w.heap.size w w1:=bT bb ah;have ay:=ah.size;(try simp at ay);have zz:=And.intro (fun o=>ah.cell (p:=⟨w.heap.size+1,o,none⟩) tS) <| And.intro (fun o=>ah.frozen (p:=⟨w.heap.size+1,o,none⟩) tS) <| And.intro (fun o=>ah.cell (p:=⟨w.heap.size,o,none⟩) tS) <| fun o=>ah.frozen (p:=⟨w.heap.size,o,none⟩) tS;(try simp [go_sem] at zz);(try clear di dz);(try clear dV eD);obtain ⟨di,dz,dV,eD⟩:=zz;(try clear bZ);have bZ:w.heap.size+1<w1.heap.size:=tO;(try clear dJ);have dJ:w.heap.size<w1.heap.size:=tO;clear ah bb
 try simp at o1 o2
 obtain ⟨a1,q1,rfl,_⟩:=o1.seg
 by_cases hh:kF c v=true
 ·obtain ⟨g1,g2⟩:=nY.1 hh
  obtain ⟨i,rfl⟩:∃ i:Nat,v=(i:Int)+1:=⟨(v - 1).toNat,by omega⟩
  have hi:i<c.words.length:=by omega
  obtain ⟨g,cap,rfl,hlo,hlt,hcell,hfr⟩:=o2.open1 hi
  obtain ⟨bb,bo,rfl,hb,hcell0⟩:∃ b' o,b=some ⟨b',o,none⟩∧b'<w.heap.size∧w.cell? ⟨b',o+i,none⟩=some (.int .i64 (c.words.getD i 0)):=by
   rcases H2.out with h0|⟨b',o',e,h1,h2⟩
   ·omega
   ·exact ⟨b',o',e,h1,by simpa [gX] using h2 i 0 hi tO⟩
  have e:eF c ((i:Int)+1)=c.words.getD i 0:=by simp [eF]
  have HE:=Lib.hid e
  clear e
  generalize c.words.getD i 0=y at hcell hcell0 HE
  have hi0:(0:Int)≤(i:Int):=by omega
  have hi1:(i:Int)<(c.words.length:Int):=by omega
  have hcell1:=(aW.cell (p:=⟨bb,bo+i,none⟩) hb).trans hcell0
  go_wp2_with fail;refine ax w zB fun bb=>?_;refine ax w1 zB fun bk=>?_;refine (ru c _ a _ p q _).mono ?_;rintro _ w2 ⟨rfl,hbw2⟩;have dE:Below w.heap.size w w2:=bT bb hbw2;have bu:=hbw2.size;(try simp at bu);have zz:=And.intro (fun o=>hbw2.cell (p:=⟨w1.heap.size,o,none⟩) tS) <| And.intro (fun o=>hbw2.frozen (p:=⟨w1.heap.size,o,none⟩) tS) <| And.intro (fun o=>hbw2.cell (p:=⟨w.heap.size+1,o,none⟩) tS) <| And.intro (fun o=>hbw2.frozen (p:=⟨w.heap.size+1,o,none⟩) tS) <| And.intro (fun o=>hbw2.cell (p:=⟨w.heap.size,o,none⟩) tS) <| fun o=>hbw2.frozen (p:=⟨w.heap.size,o,none⟩) tS;(first|simp [go_sem,di,dz,dV,eD,dJ,bZ] at zz|simp [go_sem,di,dV,dJ,bZ] at zz|simp [go_sem] at zz|skip);(try clear Jt Ju);(try clear di dz);(try clear dV eD);obtain ⟨Jt,Ju,di,dz,dV,eD⟩:=zz;(try clear CU);have CU:w1.heap.size<w2.heap.size:=tO;(try clear bZ);have bZ:w.heap.size+1<w2.heap.size:=tO;(try clear dJ);have dJ:w.heap.size<w2.heap.size:=tO;have eu:Below w1.heap.size w1 w2:=bT bk hbw2;clear hbw2 bb bk
  have p1:=own_below o1 eu
  have p2:=own_below o2 eu
  have hcell2:=(eu.cell (p:=⟨g,i,none⟩) hlt).trans hcell
  have hfr2:=fun o=>(eu.frozen (p:=⟨g,o,none⟩) hlt).trans (hfr o)
  have Rt:=(dE.cell (p:=⟨bb,bo+i,none⟩) hb).trans hcell0
  have hny:w1.heap.size≠g:=by omega
  by_cases ht:fo c ((i:Int)+1) x=true
  ·have ht2:=ht
   unfold fo at ht2
   rw [HE.out] at ht2
   simp [hh] at ht2
   obtain ⟨rfl,hin⟩:=ht2
   have HW:Hid ((dN c ((i:Int)+1) x).words=c.words.set i x):=by unfold dN;rw [if_pos ht];simp [Hid]
   have HT:=Lib.hid ht
   clear ht HE
   go_wp2_with (go_at_call 121;refine (fQ _ _ _ _).mono ?_;rintro _ _ ⟨rfl,rfl⟩)
   rw [HT.out,HW.out]
   refine bodyPost_ret (v:=.tuple #[.agg #[.int .i64 c.cap,.int .i64 c.sent,.int .i64 c.got,.int .i64 c.fin,.slice a1 c.cells.length q1,.slice (some ⟨g,0,none⟩) c.words.length cap],.bool true]) (by simp [results,Tryz.results72,go_sem, *]) rfl ⟨⟨_,_,rfl,av (lo:=w.heap.size+1+1) ?_ tO,av (lo:=w.heap.size+1+1) ?_ tO⟩,by exact zB⟩
   ·(repeat first|with_reducible exact p1|with_reducible refine zR ?_ _|with_reducible refine vv ?_|((with_reducible first|refine aS ?_ ?_ _|refine gp ?_ ?_);rotate_left;focus first|(refine own_ne o1 ?_;(try dsimp only);omega)|(refine gI o1 ?_;(try dsimp only);omega)|exact fun h=>ag.ne o1 o2 _ h rfl))
   ·have P2:=ai.set p2 hi x
    exact zO P2 o2
  ·have e1:fo c ((i:Int)+1) x=false:=by simpa using ht
   have HT:=Lib.hid e1
   have HW:=Lib.hid (nZ e1)
   unfold fo at e1
   rw [HE.out] at e1
   simp [hh] at e1
   clear HE ht
   by_cases hy:y=0
   ·subst hy
    have hin:=e1 rfl
    clear e1
    go_wp2_with (go_at_call 121;refine (fQ _ _ _ _).mono ?_;rintro _ _ ⟨rfl,rfl⟩)
    rw [HT.out,HW.out]
    refine bodyPost_ret (v:=.tuple #[.agg #[.int .i64 c.cap,.int .i64 c.sent,.int .i64 c.got,.int .i64 c.fin,.slice a1 c.cells.length q1,.slice (some ⟨g,0,none⟩) c.words.length cap],.bool false]) (by simp [results,Tryz.results72,go_sem, *]) rfl ⟨⟨_,_,rfl,av (lo:=w.heap.size+1+1) ?_ tO,av (lo:=w.heap.size+1+1) ?_ tO⟩,by exact zB⟩
    ·exact zO p1 o1
    ·exact zO p2 o2
   ·have hy2:(y != 0)=true:=by simpa using hy
    clear e1 hy
    go_wp2_with (go_at_call 121;refine (fQ _ _ _ _).mono ?_;rintro _ _ ⟨rfl,rfl⟩)
    rw [HT.out,HW.out]
    refine bodyPost_ret (v:=.tuple #[.agg #[.int .i64 c.cap,.int .i64 c.sent,.int .i64 c.got,.int .i64 c.fin,.slice a1 c.cells.length q1,.slice (some ⟨g,0,none⟩) c.words.length cap],.bool false]) (by simp [results,Tryz.results72,go_sem, *]) rfl ⟨⟨_,_,rfl,av (lo:=w.heap.size+1+1) ?_ tO,av (lo:=w.heap.size+1+1) ?_ tO⟩,by exact zB⟩
    ·exact zO p1 o1
    ·exact zO p2 o2
 ·have e1:=xm (x:=x) (by simpa using hh)
  have HT:=Lib.hid e1
  have HW:=Lib.hid (nZ e1)
  clear e1
  obtain ⟨a2,q2,rfl,_⟩:=o2.seg
  go_wp2_with fail;refine ax w zB fun bb=>?_;refine ax w1 zB fun bk=>?_;refine (ru c _ a b p q _).mono ?_;rintro _ w2 ⟨rfl,hbw2⟩;have dE:Below w.heap.size w w2:=bT bb hbw2;have bu:=hbw2.size;(try simp at bu);have zz:=And.intro (fun o=>hbw2.cell (p:=⟨w1.heap.size,o,none⟩) tS) <| And.intro (fun o=>hbw2.frozen (p:=⟨w1.heap.size,o,none⟩) tS) <| And.intro (fun o=>hbw2.cell (p:=⟨w.heap.size+1,o,none⟩) tS) <| And.intro (fun o=>hbw2.frozen (p:=⟨w.heap.size+1,o,none⟩) tS) <| And.intro (fun o=>hbw2.cell (p:=⟨w.heap.size,o,none⟩) tS) <| fun o=>hbw2.frozen (p:=⟨w.heap.size,o,none⟩) tS;(first|simp [go_sem,di,dz,dV,eD,dJ,bZ] at zz|simp [go_sem,di,dV,dJ,bZ] at zz|simp [go_sem] at zz|skip);(try clear Jt Ju);(try clear di dz);(try clear dV eD);obtain ⟨Jt,Ju,di,dz,dV,eD⟩:=zz;(try clear CU);have CU:w1.heap.size<w2.heap.size:=tO;(try clear bZ);have bZ:w.heap.size+1<w2.heap.size:=tO;(try clear dJ);have dJ:w.heap.size<w2.heap.size:=tO;have eu:Below w1.heap.size w1 w2:=bT bk hbw2;clear hbw2 bb bk
  have p1:=own_below o1 eu
  have p2:=own_below o2 eu
  go_wp2
  rw [HT.out,HW.out]
  refine bodyPost_ret (v:=.tuple #[.agg #[.int .i64 c.cap,.int .i64 c.sent,.int .i64 c.got,.int .i64 c.fin,.slice a1 c.cells.length q1,.slice a2 c.words.length q2],.bool false]) (by simp [results,Tryz.results72,go_sem, *]) rfl ⟨⟨_,_,rfl,av (lo:=w.heap.size+1+1) ?_ tO,av (lo:=w.heap.size+1+1) ?_ tO⟩,by exact zB⟩
  ·exact zO p1 o1
  ·exact zO p2 o2
end
end Go.Proofs.YtffhjmepfojhnaaGreat
