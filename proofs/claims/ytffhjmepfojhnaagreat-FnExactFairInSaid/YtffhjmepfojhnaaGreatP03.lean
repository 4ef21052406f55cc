/-
  The reference model's copies of lists and of a channel: the same in new memory; lists lie in memory and hold at most 2 ^ 40 elements.
-/
import Derived.Test.YtffhjmepfojhnaaGreatP01
import Derived.Test.YtffhjmepfojhnaaGreatP02
import Derived.BigRegion
set_option maxRecDepth 100000
set_option maxHeartbeats 1000000
set_option linter.unusedSimpArgs false
set_option linter.unusedVariables false
namespace Go.Proofs.YtffhjmepfojhnaaGreat
section
open Go.RowKit
theorem qW (l:List Int) (b:Option Addr) (q:Nat) (w:World) (h:eZ w w.heap.size b l) (hz:b=none→q=0) (hm:l.length≤1099511627776) :
  Calls Tryz.prog 172 #[.slice b l.length q] w fun r w'=>(∃ v,r=.returned v∧ai w' w.heap.size v l)∧Below w.heap.size w w':=by
 obtain ⟨i0,hi0,hz0,hz1,hz2⟩:=info_parts jI
 rcases b with _|⟨bb,bo,sp⟩
 ·obtain rfl:=hz rfl
  have hn:l.length=0:=by rcases h with h|⟨_,_,h,_⟩;exact h;cases h
  obtain rfl:l=[]:=List.eq_nil_of_length_eq_zero hn
  go_enter Tryz.func172,Tryz.ntmps172
  go_wp2_with (at_builtin;refine wpList_append_own_none rfl _ _ 29 rfl w.heap.size 2 i0 1 Tryz.underlying29 hi0 _ 0 [] rfl (kZ _ _ _ _ (Nat.le_refl _)) rfl ?_)
  go_ret
  exact ⟨⟨_,rfl,kZ _ _ _ _ (Nat.le_refl _)⟩,by exact zB⟩
 ·have HN:Hid (∀ j u,(ints l)[j]?=some u→w.cell? ((⟨bb,bo,sp⟩:Addr).add j)=some u):=by
   rcases h with h0|⟨b',o',e,h1,h2⟩
   ·obtain rfl:l=[]:=List.eq_nil_of_length_eq_zero h0
    intro j u hu;simp [ints] at hu
   ·simp at e
    obtain ⟨rfl,rfl,rfl⟩:=e
    exact Seg.newsI (.inr ⟨bb,bo,rfl,h1,h2⟩)
  clear h hz
  go_enter Tryz.func172,Tryz.ntmps172
  go_wp2_with (at_builtin;refine wpList_append_own _ rfl _ _ 29 rfl w.heap.size 2 i0 _ 1 8 Tryz.underlying29 hi0 hz0 hz1 hz2 rfl (by decide) _ 0 [] rfl (kZ _ _ _ _ (Nat.le_refl _)) ⟨bb,bo,sp⟩ l.length q (ints l) rfl (by simp [ints]) ?c0 (yh l) ?c3 ?c4 ?c5 ?_)
  case c0=>exact fun j u hu=>gF (HN.out j u hu)
  case c3=>unfold maxLen;omega
  case c4=>omega
  case c5=>simp
  intro v w1 hown hg _
  go_wp2
  go_ret
  exact ⟨⟨_,rfl,by simpa using hown⟩,lI zB hg (by simp) (by simp [Value.ownBlock])⟩
theorem vo:(Tryz.prog.info? 93).map (fun i=>(i.zero,i.size,i.bytes))=some (some (.agg #[.int .i64 0,.int .i64 0,.int .i64 0]),3,24):=by kernel_rfl
theorem qX (c:Ch) (a b:Option Addr) (p q:Nat) (w:World) (h1:eY w w.heap.size a c.cells) (z1:a=none→p=0) (h2:eZ w w.heap.size b c.words) (z2:b=none→q=0) (m1:c.cells.length≤1099511627776) (m2:c.words.length≤1099511627776) :
  Calls Tryz.prog 123 #[.agg #[.int .i64 c.cap,.int .i64 c.sent,.int .i64 c.got,.int .i64 c.fin,.slice a c.cells.length p,.slice b c.words.length q]] w fun r w' =>
   (∃ v1 v2,r=.returned (.agg #[.int .i64 c.cap,.int .i64 c.sent,.int .i64 c.got,.int .i64 c.fin,v1,v2])∧ah w' w.heap.size v1 c.cells∧ai w' w.heap.size v2 c.words)∧Below w.heap.size w w':=by
 obtain ⟨i0,hi0,hz0,hz1,hz2⟩:=info_parts vo
 obtain ⟨cap,sent,got,fin,cells,words⟩:=c
 simp only at *
 have H2:=Lib.hid h2
 have Z2:=Lib.hid z2
 clear h2 z2
 rcases a with _|⟨bb,bo,sp⟩
 ·obtain rfl:=z1 rfl
  have hn:cells.length=0:=by rcases h1 with h|⟨_,_,h,_⟩;exact h;cases h
  obtain rfl:cells=[]:=List.eq_nil_of_length_eq_zero hn
  clear h1 z1 hn m1
  go_enter Tryz.func123,Tryz.ntmps123
  go_wp2_with (at_builtin;refine wpList_append_own_none rfl _ _ 28 rfl (w.heap.size+1+1) 93 i0 3 Tryz.underlying28 hi0 _ 0 [] rfl (fJ _ _ _ _ _ (by simp) (by simp)) rfl ?_)
  refine (qW words b q _ ((H2.out.below zB).more (by simp;try omega)) Z2.out m2).mono ?_
  rintro _ w2 ⟨⟨v2,rfl,hown2⟩,hb2⟩
  have hown3:ah w2 (w.heap.size+1+1) (.slice (some ⟨w.heap.size+1+1,0,none⟩) 0 0) []:=own_below (fJ _ _ _ _ _ (by simp) (by simp)) hb2
  have kM:=ay hown2 (lo':=w.heap.size+1+1) (by simp;try omega)
  obtain ⟨vb,vd,rfl,_⟩:=ai.seg hown2
  clear hown2
  have hs2:=hb2.size
  simp at hs2
  have hB2:Below w.heap.size w w2:=bT zB hb2
  have:=fun o=>hb2.cell (p:=⟨w.heap.size,o,none⟩) (by simp;try omega)
  have:=fun o=>hb2.cell (p:=⟨w.heap.size+1,o,none⟩) (by simp;try omega)
  have:=fun o=>hb2.frozen (p:=⟨w.heap.size,o,none⟩) (by simp;try omega)
  have:=fun o=>hb2.frozen (p:=⟨w.heap.size+1,o,none⟩) (by simp;try omega)
  clear hb2
  have:w.heap.size<w.heap.size+1+1:=by omega
  have:w.heap.size≤w.heap.size+1:=by omega
  go_wp2_with fail
  refine bodyPost_ret (v:=.agg #[.int .i64 cap,.int .i64 sent,.int .i64 got,.int .i64 fin,.slice (some ⟨w.heap.size+1+1,0,none⟩) 0 0,.slice vb words.length vd]) (by simp [results,Tryz.results123,go_sem, *]) rfl ⟨⟨_,_,rfl,?_,?_⟩,?_⟩
  ·refine ay (lo:=w.heap.size+1+1) ?_ tO
   repeat (first|with_reducible exact hown3|((with_reducible refine bP ?_ ?_ _);rotate_left;(focus exact own_ne hown3 (by (try simp);try omega))))
  ·refine ay (lo:=w.heap.size+1+1) ?_ tO
   repeat (first|with_reducible exact kM|((with_reducible refine bP ?_ ?_ _);rotate_left;(focus exact own_ne kM (by (try simp);try omega))))
  ·exact zB
 ·have HN:Hid (∀ j u,(gU cells)[j]?=some u→w.cell? ((⟨bb,bo,sp⟩:Addr).add j)=some u):=by
   rcases h1 with h0|⟨b',o',e,h1,h2⟩
   ·obtain rfl:cells=[]:=List.eq_nil_of_length_eq_zero h0
    intro j u hu;simp [gU] at hu
   ·simp at e
    obtain ⟨rfl,rfl,rfl⟩:=e
    exact Seg.newsC (.inr ⟨bb,bo,rfl,h1,h2⟩)
  clear h1 z1
  go_enter Tryz.func123,Tryz.ntmps123
  go_wp2_with (at_builtin;refine wpList_append_own _ rfl _ _ 28 rfl (w.heap.size+1+1) 93 i0 _ 3 24 Tryz.underlying28 hi0 hz0 hz1 hz2 rfl (by decide) _ 0 [] rfl (fJ _ _ _ _ _ (by simp) (by simp;try omega)) ⟨bb,bo,sp⟩ cells.length p (gU cells) rfl (il cells) ?c0 (uY cells) ?c3 ?c4 ?c5 ?_)
  case c0=>exact fun j u hu=>gF (gF (gF (HN.out j u hu)))
  case c3=>unfold maxLen;omega
  case c4=>omega
  case c5=>(simp;try omega)
  intro v w1 hown hg _
  simp [Value.ownBlock] at hg
  have hs1:=hg.size
  simp at hs1
  have:=Lm (b:=w.heap.size) hg (by simp;omega) tO
  have:=Lm (b:=w.heap.size+1) hg (by simp) tO
  have:=Lp (b:=w.heap.size) hg (by simp;omega) tO
  have:=Lp (b:=w.heap.size+1) hg (by simp) tO
  have:w.heap.size<w1.heap.size:=by omega
  have:w.heap.size≤w1.heap.size:=by omega
  have hB1:Below w.heap.size w w1:=lI zB hg (by simp;omega) (by simp;omega)
  have hown1:ah w1 (w.heap.size+1+1) v cells:=by simpa using hown
  clear hown
  obtain ⟨va,vc,rfl,_⟩:=ah.seg hown1
  go_wp2_with fail
  refine (qW words b q _ ((H2.out.below hB1).setOther (by simp [World.setCell];omega) (by simp)) Z2.out m2).mono ?_
  rintro _ w2 ⟨⟨v2,rfl,hown2⟩,hb2⟩
  have hown3:=own_below (bP hown1 (p:=⟨w.heap.size,4,none⟩) (own_ne hown1 (by (try simp);try omega)) (.slice va cells.length vc)) hb2
  have kM:=ay hown2 (lo':=w.heap.size+1+1) (by simp [World.setCell];omega)
  obtain ⟨vb,vd,rfl,_⟩:=ai.seg hown2
  clear hown2
  have hs2:=hb2.size
  simp [World.setCell] at hs2
  have hB2:Below w.heap.size w w2:=bT zB hb2
  have:=fun o=>hb2.cell (p:=⟨w.heap.size,o,none⟩) (by simp [World.setCell];omega)
  have:=fun o=>hb2.cell (p:=⟨w.heap.size+1,o,none⟩) (by simp [World.setCell];omega)
  have:=fun o=>hb2.frozen (p:=⟨w.heap.size,o,none⟩) (by simp [World.setCell];omega)
  have:=fun o=>hb2.frozen (p:=⟨w.heap.size+1,o,none⟩) (by simp [World.setCell];omega)
  clear hb2
  have:w.heap.size<w.heap.size+1+1:=by omega
  have:w.heap.size≤w.heap.size+1:=by omega
  go_wp2_with fail
  refine bodyPost_ret (v:=.agg #[.int .i64 cap,.int .i64 sent,.int .i64 got,.int .i64 fin,.slice va cells.length vc,.slice vb words.length vd]) (by simp [results,Tryz.results123,go_sem, *]) rfl ⟨⟨_,_,rfl,?_,?_⟩,?_⟩
  ·refine ay (lo:=w.heap.size+1+1) ?_ tO
   repeat (first|with_reducible exact hown3|((with_reducible refine bP ?_ ?_ _);rotate_left;(focus exact own_ne hown3 (by (try simp);try omega))))
  ·refine ay (lo:=w.heap.size+1+1) ?_ tO
   repeat (first|with_reducible exact kM|((with_reducible refine bP ?_ ?_ _);rotate_left;(focus exact own_ne kM (by (try simp);try omega))))
  ·exact zB
end
section
open Go.RowKit
theorem p9 (c:Ch) (v:Int) (a b:Option Addr) (p q:Nat) (w:World) :
  Calls Tryz.prog 124 #[.agg #[.int .i64 c.cap,.int .i64 c.sent,.int .i64 c.got,.int .i64 c.fin,.slice a c.cells.length p,.slice b c.words.length q],.int .i64 v] w fun r w'=>r=.returned (.bool (jo c v))∧Below w.heap.size w w':=by
 go_enter Tryz.func124,Tryz.ntmps124
 go_wp2_with (go_at_call 121;refine (fD _ _ _ _).mono ?_;rintro _ _ ⟨rfl,rfl⟩)
 go_ret
 exact ⟨rfl,by exact zB⟩
theorem mI {c:Ch} {v:Int}:jo c v=true↔1≤v∧v≤c.words.length:=by simp [jo,dL]
theorem vv {c:Ch} {v:Int} (h:(aG c && jo c v)=false):-1=gq c v:=by simp [gq,h]
theorem Bq {c:Ch} {v:Int} (h1:aG c=true) (h2:jo c v=true):dX c v=gq c v:=by simp [gq,h1,h2]
end
section
open Go.RowKit
theorem vw {c:Ch} {v x:Int} (h:jo c v=false):eU c v x=false:=by simp [eU,h]
theorem oI {c:Ch} {v x:Int} (h:eU c v x=false):dD c v x=c:=by simp [dD,h]
theorem ai.open1 {w:World} {lo:Nat} {v:Value} {l:List Int} (h:ai w lo v l) {i:Nat} (hi:i<l.length) :
  ∃ g cap,v=.slice (some ⟨g,0,none⟩) l.length cap∧lo≤g∧g<w.heap.size∧w.cell? ⟨g,i,none⟩=some (.int .i64 (l.getD i 0))∧∀ o,w.frozen? ⟨g,o,none⟩=false:=by
 have h2:=h
 rcases h.2 with ⟨_,h0⟩|⟨g,cap,cur,rfl,hl,hg,_⟩
 ·omega
 ·refine ⟨g,cap,rfl,hl,(Array.getElem?_eq_some_iff.1 hg).1,?_,fun o=>by simp [World.frozen?,hg]⟩
  have:=h2.cells (g:=g) rfl i (.int .i64 (l.getD i 0)) (by simp [ints,List.getD,hi])
  rw [← this];congr 1;by_cases e:i=0 <;> simp [Addr.add,e]
theorem ai.set {w:World} {lo g cap:Nat} {l:List Int} (h:ai w lo (.slice (some ⟨g,0,none⟩) l.length cap) l) {i:Nat} (hi:i<l.length) (x:Int) :
  ai (w.setCell ⟨g,i,none⟩ (.int .i64 x)) lo (.slice (some ⟨g,0,none⟩) l.length cap) (l.set i x):=by
 have:=iV h i (by rw [qM];exact hi) (.int .i64 x)
 unfold ai
 rw [ints_set,List.length_set]
 exact this
theorem fU {w:World} {lo:Nat} {e:TypeId} {k n:Nat} {v:Value} {xs:List Value} (h:w.ownsRow lo e k v n xs) {b:Nat} (hb:w.heap.size≤b):v.ownBlock≠some b:=fun he=>by have:=(h.lt b he).2;omega
theorem ah.ne {w:World} {lo lo':Nat} {v v':Value} {cs:List C3} {l:List Int} (h:ah w lo v cs) (h':ai w lo' v' l) (i:Nat) (hi:v.ownBlock=some i):v'.ownBlock≠some i:=by
 intro hi'
 rcases h.2 with ⟨rfl,_⟩|⟨g,cap,cur,rfl,_,hg,_⟩
 ·cases hi
 rcases h'.2 with ⟨rfl,_⟩|⟨g',cap',cur',rfl,_,hg',_⟩
 ·cases hi'
 simp [Value.ownBlock] at hi hi'
 subst hi hi'
 rw [hg] at hg'
 simp at hg'
theorem wh {w:World} {lo lo':Nat} {v v':Value} {cs:List C3} {l:List Int} (h:ah w lo v cs) (h':ai w lo' v' l):v.ownBlock=none∨v.ownBlock≠v'.ownBlock:=by
 cases e:v.ownBlock with
 | none=>exact .inl rfl
 | some j=>exact .inr fun e2=>ah.ne h h' j e e2.symm
theorem Br (c:Ch) (v x:Int) (a b:Option Addr) (p q:Nat) (w:World) (h1:eY w w.heap.size a c.cells) (z1:a=none→p=0) (h2:eZ w w.heap.size b c.words) (z2:b=none→q=0) (m1:c.cells.length≤1099511627776) (m2:c.words.length≤1099511627776) :
  Calls Tryz.prog 72 #[.agg #[.int .i64 c.cap,.int .i64 c.sent,.int .i64 c.got,.int .i64 c.fin,.slice a c.cells.length p,.slice b c.words.length q],.int .i64 v,.int .i64 x] w fun r w' =>
   (∃ v1 v2,r=.returned (.tuple #[.agg #[.int .i64 c.cap,.int .i64 c.sent,.int .i64 c.got,.int .i64 c.fin,v1,v2],.bool (eU c v x)])∧ah w' w.heap.size v1 c.cells∧ai w' w.heap.size v2 (dD c v x).words)∧Below w.heap.size w w':=by
 have H1:=Lib.hid h1
 have H2:=Lib.hid h2
 have Z1:=Lib.hid z1
 have Z2:=Lib.hid z2
 clear h1 h2 z1 z2
 go_enter Tryz.func72,Tryz.ntmps72
 go_wp2_with fail;refine au w zB fun bb=>?_;refine (qX c a b p q _ ((H1.out.below bb).more bb.size) Z1.out ((H2.out.below bb).more bb.size) Z2.out m1 m2).mono ?_;rintro _ w1 ⟨⟨v1,v2,rfl,o1,o2⟩,ag⟩;have aV:Below w.heap.size w w1:=bT bb ag;have ak:=ag.size;(try simp at ak);have zz:=And.intro (fun o=>ag.cell (p:=⟨w.heap.size+1,o,none⟩) tS) <| And.intro (fun o=>ag.frozen (p:=⟨w.heap.size+1,o,none⟩) tS) <| And.intro (fun o=>ag.cell (p:=⟨w.heap.size,o,none⟩) tS) <| fun o=>ag.frozen (p:=⟨w.heap.size,o,none⟩) tS;(try simp [go_sem] at zz);(try clear dS dZ);(try clear di dC);obtain ⟨dS,dZ,di,dC⟩:=zz;(try clear dz);have dz:w.heap.size+1<w1.heap.size:=tO;(try clear bV);have bV:w.heap.size<w1.heap.size:=tO;clear ag bb
 try simp at o1 o2
 obtain ⟨a1,q1,rfl,_⟩:=o1.seg
 by_cases hh:jo c v=true
 ·obtain ⟨g1,g2⟩:=mI.1 hh
  obtain ⟨i,rfl⟩:∃ i:Nat,v=(i:Int)+1:=⟨(v - 1).toNat,by omega⟩
  have hi:i<c.words.length:=by omega
  obtain ⟨g,cap,rfl,hlo,hlt,hcell,hfr⟩:=o2.open1 hi
  obtain ⟨bb,bo,rfl,hb,hcell0⟩:∃ b' o,b=some ⟨b',o,none⟩∧b'<w.heap.size∧w.cell? ⟨b',o+i,none⟩=some (.int .i64 (c.words.getD i 0)):=by
   rcases H2.out with h0|⟨b',o',e,h1,h2⟩
   ·omega
   ·exact ⟨b',o',e,h1,by simpa [fP] using h2 i 0 hi tO⟩
  have e:dX c ((i:Int)+1)=c.words.getD i 0:=by simp [dX]
  have HE:=Lib.hid e
  clear e
  generalize c.words.getD i 0=y at hcell hcell0 HE
  have hi0:(0:Int)≤(i:Int):=by omega
  have hi1:(i:Int)<(c.words.length:Int):=by omega
  have hcell1:=(aV.cell (p:=⟨bb,bo+i,none⟩) hb).trans hcell0
  go_wp2_with fail;refine au w zB fun bb=>?_;refine au w1 zB fun bk=>?_;refine (p9 c _ a _ p q _).mono ?_;rintro _ w2 ⟨rfl,hbw2⟩;have dh:Below w.heap.size w w2:=bT bb hbw2;have aR:=hbw2.size;(try simp at aR);have zz:=And.intro (fun o=>hbw2.cell (p:=⟨w1.heap.size,o,none⟩) tS) <| And.intro (fun o=>hbw2.frozen (p:=⟨w1.heap.size,o,none⟩) tS) <| And.intro (fun o=>hbw2.cell (p:=⟨w.heap.size+1,o,none⟩) tS) <| And.intro (fun o=>hbw2.frozen (p:=⟨w.heap.size+1,o,none⟩) tS) <| And.intro (fun o=>hbw2.cell (p:=⟨w.heap.size,o,none⟩) tS) <| fun o=>hbw2.frozen (p:=⟨w.heap.size,o,none⟩) tS;(first|simp [go_sem,dS,dZ,di,dC,bV,dz] at zz|simp [go_sem,dS,di,bV,dz] at zz|simp [go_sem] at zz|skip);(try clear GV GX);(try clear dS dZ);(try clear di dC);obtain ⟨GV,GX,dS,dZ,di,dC⟩:=zz;(try clear Bt);have Bt:w1.heap.size<w2.heap.size:=tO;(try clear dz);have dz:w.heap.size+1<w2.heap.size:=tO;(try clear bV);have bV:w.heap.size<w2.heap.size:=tO;have dW:Below w1.heap.size w1 w2:=bT bk hbw2;clear hbw2 bb bk
  have p1:=own_below o1 dW
  have p2:=own_below o2 dW
  have hcell2:=(dW.cell (p:=⟨g,i,none⟩) hlt).trans hcell
  have hfr2:=fun o=>(dW.frozen (p:=⟨g,o,none⟩) hlt).trans (hfr o)
  have O9:=(dh.cell (p:=⟨bb,bo+i,none⟩) hb).trans hcell0
  have hny:w1.heap.size≠g:=by omega
  by_cases ht:eU c ((i:Int)+1) x=true
  ·have ht2:=ht
   unfold eU at ht2
   rw [HE.out] at ht2
   simp [hh] at ht2
   obtain ⟨rfl,hin⟩:=ht2
   have HW:Hid ((dD c ((i:Int)+1) x).words=c.words.set i x):=by unfold dD;rw [if_pos ht];simp [Hid]
   have HT:=Lib.hid ht
   clear ht HE
   go_wp2_with (go_at_call 121;refine (fD _ _ _ _).mono ?_;rintro _ _ ⟨rfl,rfl⟩)
   rw [HT.out,HW.out]
   refine bodyPost_ret (v:=.tuple #[.agg #[.int .i64 c.cap,.int .i64 c.sent,.int .i64 c.got,.int .i64 c.fin,.slice a1 c.cells.length q1,.slice (some ⟨g,0,none⟩) c.words.length cap],.bool true]) (by simp [results,Tryz.results72,go_sem, *]) rfl ⟨⟨_,_,rfl,ay (lo:=w.heap.size+1+1) ?_ tO,ay (lo:=w.heap.size+1+1) ?_ tO⟩,by exact zB⟩
   ·(repeat first|with_reducible exact p1|with_reducible refine xS ?_ _|with_reducible refine uZ ?_|((with_reducible first|refine bP ?_ ?_ _|refine fI ?_ ?_);rotate_left;focus first|(refine own_ne o1 ?_;(try dsimp only);omega)|(refine fU o1 ?_;(try dsimp only);omega)|exact fun h=>ah.ne o1 o2 _ h rfl))
   ·have P2:=ai.set p2 hi x
    exact zO P2 o2
  ·have e1:eU c ((i:Int)+1) x=false:=by simpa using ht
   have HT:=Lib.hid e1
   have HW:=Lib.hid (oI e1)
   unfold eU at e1
   rw [HE.out] at e1
   simp [hh] at e1
   clear HE ht
   by_cases hy:y=0
   ·subst hy
    have hin:=e1 rfl
    clear e1
    go_wp2_with (go_at_call 121;refine (fD _ _ _ _).mono ?_;rintro _ _ ⟨rfl,rfl⟩)
    rw [HT.out,HW.out]
    refine bodyPost_ret (v:=.tuple #[.agg #[.int .i64 c.cap,.int .i64 c.sent,.int .i64 c.got,.int .i64 c.fin,.slice a1 c.cells.length q1,.slice (some ⟨g,0,none⟩) c.words.length cap],.bool false]) (by simp [results,Tryz.results72,go_sem, *]) rfl ⟨⟨_,_,rfl,ay (lo:=w.heap.size+1+1) ?_ tO,ay (lo:=w.heap.size+1+1) ?_ tO⟩,by exact zB⟩
    ·exact zO p1 o1
    ·exact zO p2 o2
   ·have hy2:(y != 0)=true:=by simpa using hy
    clear e1 hy
    go_wp2_with (go_at_call 121;refine (fD _ _ _ _).mono ?_;rintro _ _ ⟨rfl,rfl⟩)
    rw [HT.out,HW.out]
    refine bodyPost_ret (v:=.tuple #[.agg #[.int .i64 c.cap,.int .i64 c.sent,.int .i64 c.got,.int .i64 c.fin,.slice a1 c.cells.length q1,.slice (some ⟨g,0,none⟩) c.words.length cap],.bool false]) (by simp [results,Tryz.results72,go_sem, *]) rfl ⟨⟨_,_,rfl,ay (lo:=w.heap.size+1+1) ?_ tO,ay (lo:=w.heap.size+1+1) ?_ tO⟩,by exact zB⟩
    ·exact zO p1 o1
    ·exact zO p2 o2
 ·have e1:=vw (x:=x) (by simpa using hh)
  have HT:=Lib.hid e1
  have HW:=Lib.hid (oI e1)
  clear e1
  obtain ⟨a2,q2,rfl,_⟩:=o2.seg
  go_wp2_with fail;refine au w zB fun bb=>?_;refine au w1 zB fun bk=>?_;refine (p9 c _ a b p q _).mono ?_;rintro _ w2 ⟨rfl,hbw2⟩;have dh:Below w.heap.size w w2:=bT bb hbw2;have aR:=hbw2.size;(try simp at aR);have zz:=And.intro (fun o=>hbw2.cell (p:=⟨w1.heap.size,o,none⟩) tS) <| And.intro (fun o=>hbw2.frozen (p:=⟨w1.heap.size,o,none⟩) tS) <| And.intro (fun o=>hbw2.cell (p:=⟨w.heap.size+1,o,none⟩) tS) <| And.intro (fun o=>hbw2.frozen (p:=⟨w.heap.size+1,o,none⟩) tS) <| And.intro (fun o=>hbw2.cell (p:=⟨w.heap.size,o,none⟩) tS) <| fun o=>hbw2.frozen (p:=⟨w.heap.size,o,none⟩) tS;(first|simp [go_sem,dS,dZ,di,dC,bV,dz] at zz|simp [go_sem,dS,di,bV,dz] at zz|simp [go_sem] at zz|skip);(try clear GV GX);(try clear dS dZ);(try clear di dC);obtain ⟨GV,GX,dS,dZ,di,dC⟩:=zz;(try clear Bt);have Bt:w1.heap.size<w2.heap.size:=tO;(try clear dz);have dz:w.heap.size+1<w2.heap.size:=tO;(try clear bV);have bV:w.heap.size<w2.heap.size:=tO;have dW:Below w1.heap.size w1 w2:=bT bk hbw2;clear hbw2 bb bk
  have p1:=own_below o1 dW
  have p2:=own_below o2 dW
  go_wp2
  rw [HT.out,HW.out]
  refine bodyPost_ret (v:=.tuple #[.agg #[.int .i64 c.cap,.int .i64 c.sent,.int .i64 c.got,.int .i64 c.fin,.slice a1 c.cells.length q1,.slice a2 c.words.length q2],.bool false]) (by simp [results,Tryz.results72,go_sem, *]) rfl ⟨⟨_,_,rfl,ay (lo:=w.heap.size+1+1) ?_ tO,ay (lo:=w.heap.size+1+1) ?_ tO⟩,by exact zB⟩
  ·exact zO p1 o1
  ·exact zO p2 o2
end
section
open Go.RowKit
attribute [local simp] aI
attribute [local go_sem ↓] aH aU aM bz aN bB aA aK ax aB
theorem kN (c:Ch) (a b:Option Addr) (p q:Nat) (w:World) (h1:eY w w.heap.size a c.cells) (h2:eZ w w.heap.size b c.words) :
  Calls Tryz.prog 112 #[.agg (af c (.slice a c.cells.length p) (.slice b c.words.length q))] w fun r w'=>r=.returned (.bool (aG c))∧Below w.heap.size w w':=jr c a b p q w h1 h2
theorem cO (c:Ch) (a b:Option Addr) (p q:Nat) (w:World) (h1:eY w w.heap.size a c.cells) (z1:a=none→p=0) (h2:eZ w w.heap.size b c.words) (z2:b=none→q=0) (m1:c.cells.length≤1099511627776) (m2:c.words.length≤1099511627776) :
  Calls Tryz.prog 123 #[.agg (af c (.slice a c.cells.length p) (.slice b c.words.length q))] w fun r w'=>(∃ v1 v2,r=.returned (.agg (af c v1 v2))∧ah w' w.heap.size v1 c.cells∧ai w' w.heap.size v2 c.words)∧Below w.heap.size w w':=qX c a b p q w h1 z1 h2 z2 m1 m2
theorem nC (c:Ch) (v x:Int) (a b:Option Addr) (p q:Nat) (w:World) (h1:eY w w.heap.size a c.cells) (z1:a=none→p=0) (h2:eZ w w.heap.size b c.words) (z2:b=none→q=0) (m1:c.cells.length≤1099511627776) (m2:c.words.length≤1099511627776) :
  Calls Tryz.prog 72 #[.agg (af c (.slice a c.cells.length p) (.slice b c.words.length q)),.int .i64 v,.int .i64 x] w fun r w' =>
   (∃ v1 v2,r=.returned (.tuple #[.agg (af c v1 v2),.bool (eU c v x)])∧ah w' w.heap.size v1 c.cells∧ai w' w.heap.size v2 (dD c v x).words)∧Below w.heap.size w w':=Br c v x a b p q w h1 z1 h2 z2 m1 m2
theorem bZ (c:Ch) (h:Ha) (f t k:Int) (a b:Option Addr) (p q:Nat) (w:World) (h1:eY w w.heap.size a c.cells) (h2:eZ w w.heap.size b c.words) :
  Calls Tryz.prog 196 #[.agg (af c (.slice a c.cells.length p) (.slice b c.words.length q)),.agg (aa h),.int .i64 f,.int .i64 t,.int .i64 k] w fun r w'=>r=.returned (.bool (aX c h f t k))∧Below w.heap.size w w':=by
 have H1:=Lib.hid h1
 have H2:=Lib.hid h2
 clear h1 h2
 go_enter Tryz.func196,Tryz.ntmps196
 go_wp2_with (first|(go_at_call 112;refine au w zB fun bb=>?_;refine (kN c a b p q _ (aT H1 bb) (aT H2 bb)).mono ?_;rintro _ w1 ⟨rfl,ag⟩;obtain ⟨aV,ak,zz⟩:=Bj bb ag (b:=w.heap.size);(try simp at ak);(try simp [go_sem] at zz);replace bX:=xU zz;clear zz ag bb)|(go_at_call 119;refine au w zB fun bb=>?_;refine (iP _ _).mono ?_;rintro _ w2 ⟨rfl,hbw2⟩;obtain ⟨dh,aR,zz⟩:=Bj bb hbw2 (b:=w.heap.size);(try simp at aR);(first|simp [go_sem,bX] at zz|simp [go_sem] at zz|skip);replace bX:=xU zz;clear zz hbw2 bb)|(go_at_call 121;refine (fD _ _ _ _).mono ?_;rintro _ _ ⟨rfl,rfl⟩))
 all_goals go_ret
 all_goals exact ⟨aZ (by simp_all [aX]),by exact zB⟩
theorem GY {c:Ch} {h:Ha} (h1:aG c=true) (h2:bF h=true):done c h=(c,h,true):=by simp [done,h1,h2]
theorem GZ {c:Ch} {h:Ha} (h1:aG c=false):done c h=nothing:=by simp [done,h1]
theorem Hd {c:Ch} {h:Ha} (h1:bF h=false):done c h=nothing:=by simp [done,h1]
def dY (w:World) (v v':Value):Prop:=∀ j,v'.ownBlock=some j→v.ownBlock=some j∨w.heap.size≤j
theorem av (w:World) (v:Value):dY w v v:=fun _ h=>.inl h
theorem vz (w:World) (v:Value) (n c:Nat):dY w v (.slice none n c):=fun _ h=>by cases h
theorem dY.off {w w0:World} {v v':Value} (h:dY w v v') (hv:∀ j,v.ownBlock=some j→j<w0.heap.size) {b:Nat} (h1:w0.heap.size≤b) (h2:b<w.heap.size):v'.ownBlock≠some b:=fun e=>by
 rcases h b e with h|h
 ·have:=hv b h;omega
 ·omega
def qY (w w':World) (lo:Nat) (v1 v2:Value) (x:St) (r:Ending):Prop:=∃ y1 y2,r=.returned (.tuple #[.agg (af x.1 y1 y2),.agg (aa x.2.1),.bool x.2.2])∧ah w' lo y1 x.1.cells∧ai w' lo y2 x.1.words∧dY w v1 y1∧dY w v2 y2
theorem sO {w wk OA:World} {v v' u u':Value} (lim:Nat) (f1:dY wk v v') (f2:dY OA u u') (b1:∀ j,v.ownBlock=some j→j<w.heap.size) (b2:∀ j,u.ownBlock=some j→j<w.heap.size) (h:lim≤wk.heap.size:=by (try simp) <;> omega) (h2:lim≤OA.heap.size:=by (try simp) <;> omega) (g:w.heap.size≤wk.heap.size:=by (try simp) <;> omega) (g2:w.heap.size≤OA.heap.size:=by (try simp) <;> omega):((∀ j,w.heap.size≤j→j<lim→v'.ownBlock≠some j)∧(∀ j,w.heap.size≤j→j<lim→u'.ownBlock≠some j))∧dY w v v'∧dY w u u' :=
 ⟨⟨fun _ h1 k=>f1.off b1 h1 (Nat.lt_of_lt_of_le k h),fun _ h1 k=>f2.off b2 h1 (Nat.lt_of_lt_of_le k h2)⟩,fun j hj=>(f1 j hj).imp id (Nat.le_trans g),fun j hj=>(f2 j hj).imp id (Nat.le_trans g2)⟩
theorem jZ (w w':World) (lo:Nat) (v1 v2:Value):qY w w' lo v1 v2 nothing (.returned (.tuple #[.agg (af Ch.zero (.slice none 0 0) (.slice none 0 0)),.agg (aa Ha.zero),.bool false])):=⟨_,_,rfl,World.ownsRow_nil _ _ _ _,World.ownsRow_nil _ _ _ _,vz _ _ _ _,vz _ _ _ _⟩
theorem fQ (w:World) (lo:Nat) (v1 v2:Value):Calls Tryz.prog 197 #[] w fun r w'=>qY w w' lo v1 v2 nothing r∧Below w.heap.size w w':=by
 go_enter Tryz.func197,Tryz.ntmps197
 go_wp2
 refine rE Tryz.results197 rfl (az Ch.zero (.slice none 0 0) (.slice none 0 0) (by simp [go_sem])) rfl (aj Ha.zero (by simp [go_sem])) ⟨jZ _ _ _ _ _,by exact zB⟩
end
section
open Go.RowKit
attribute [local simp] aI
attribute [local go_sem ↓] aH aU aM bz aN bB aA aK ax aB
theorem aW (c:Ch) (h:Ha) (v1 v2:Value) (lo:Nat) (w:World) (h1:ah w lo v1 c.cells) (h2:ai w lo v2 c.words) :
  Calls Tryz.prog 198 #[.agg (af c v1 v2),.agg (aa h)] w fun r w'=>qY w w' lo v1 v2 (done c h) r∧Below w.heap.size w w':=by
 have O1:=Lib.hid h1
 have O2:=Lib.hid h2
 obtain ⟨a,p,rfl,g1⟩:=h1.seg
 obtain ⟨b,q,rfl,g2⟩:=h2.seg
 have H1:=Lib.hid g1
 have H2:=Lib.hid g2
 clear h1 h2 g1 g2
 by_cases hc:aG c=true
 ·by_cases hh:bF h=true
  ·rw [GY hc hh]
   go_enter Tryz.func198,Tryz.ntmps198
   go_wp2_with (first|(go_at_call 112;refine au w zB fun bb=>?_;refine (kN c a b p q _ (aT H1 bb) (aT H2 bb)).mono ?_;rintro _ w1 ⟨rfl,ag⟩;obtain ⟨aV,ak,zz⟩:=dV bb ag (b:=w.heap.size);(try simp at ak);(try simp [go_sem] at zz);replace bX:=dx zz;clear zz;have eD:=aV;clear ag bb)|(go_at_call 119;refine au w zB fun bb=>?_;refine (iP _ _).mono ?_;rintro _ w2 ⟨rfl,hbw2⟩;obtain ⟨dh,aR,zz⟩:=dV bb hbw2 (b:=w.heap.size);(try simp at aR);(first|simp [go_sem,bX] at zz|simp [go_sem] at zz|skip);replace bX:=dx zz;clear zz;have dW:=dh;clear hbw2 bb))
   have p1:=own_below O1.out dh
   have p2:=own_below O2.out dh
   have o1:=O1.out
   have o2:=O2.out
   go_region
   go_wp2
   refine rE Tryz.results198 rfl (az c (.slice a c.cells.length p) (.slice b c.words.length q) tY) rfl (aj h tY) ⟨⟨_,_,rfl,?_,?_,av _ _,av _ _⟩,by exact zB⟩
   ·exact zO p1 o1
   ·exact zO p2 o2
  ·have MI:bF h=false:=by simpa using hh
   rw [Hd MI]
   clear hh
   go_enter Tryz.func198,Tryz.ntmps198
   go_wp2_with (first|(go_at_call 112;refine au w zB fun bb=>?_;refine (kN c a b p q _ (aT H1 bb) (aT H2 bb)).mono ?_;rintro _ w1 ⟨rfl,ag⟩;obtain ⟨aV,ak,zz⟩:=dV bb ag (b:=w.heap.size);(try simp at ak);(try simp [go_sem] at zz);replace bX:=dx zz;clear zz;have eD:=aV;clear ag bb)|(go_at_call 119;refine au w zB fun bb=>?_;refine (iP _ _).mono ?_;rintro _ w2 ⟨rfl,hbw2⟩;obtain ⟨dh,aR,zz⟩:=dV bb hbw2 (b:=w.heap.size);(try simp at aR);(first|simp [go_sem,bX] at zz|simp [go_sem] at zz|skip);replace bX:=dx zz;clear zz;have dW:=dh;clear hbw2 bb))
   refine rE Tryz.results198 rfl (az Ch.zero (.slice none 0 0) (.slice none 0 0) tY) rfl (aj Ha.zero tY) ⟨jZ _ _ _ _ _,by exact zB⟩
 ·have hc2:aG c=false:=by simpa using hc
  rw [GZ hc2]
  clear hc
  go_enter Tryz.func198,Tryz.ntmps198
  go_wp2_with (first|(go_at_call 112;refine au w zB fun bb=>?_;refine (kN c a b p q _ (aT H1 bb) (aT H2 bb)).mono ?_;rintro _ w1 ⟨rfl,ag⟩;obtain ⟨aV,ak,zz⟩:=dV bb ag (b:=w.heap.size);(try simp at ak);(try simp [go_sem] at zz);replace bX:=dx zz;clear zz;have eD:=aV;clear ag bb)|(go_at_call 119;refine au w zB fun bb=>?_;refine (iP _ _).mono ?_;rintro _ w2 ⟨rfl,hbw2⟩;obtain ⟨dh,aR,zz⟩:=dV bb hbw2 (b:=w.heap.size);(try simp at aR);(first|simp [go_sem,bX] at zz|simp [go_sem] at zz|skip);replace bX:=dx zz;clear zz;have dW:=dh;clear hbw2 bb))
  refine rE Tryz.results198 rfl (az Ch.zero (.slice none 0 0) (.slice none 0 0) tY) rfl (aj Ha.zero tY) ⟨jZ _ _ _ _ _,by exact zB⟩
end
section
open Go.RowKit
theorem E9 (s e t m:Int) (w:World):Calls Tryz.prog 199 #[.agg #[.int .i64 s,.int .i64 e,.int .i64 t],.int .i64 m] w fun r w'=>r=.returned (.agg #[.int .i64 s,.int .i64 (mo s e t m),.int .i64 t])∧Below w.heap.size w w':=by
 go_enter Tryz.func199,Tryz.ntmps199
 go_wp2_with (first|(go_at_call 162;refine (jq _ _ _ _).mono ?_;rintro _ w1 ⟨rfl,ag⟩;have hBw1:Below w.heap.size w w1:=bT zB ag;have ak:=ag.size;(try (simp at ak));have:=fun o=>ag.cell (p:=⟨w.heap.size,o,none⟩) (by ((try simp);(try omega)));have:=fun o=>ag.frozen (p:=⟨w.heap.size,o,none⟩) (by ((try simp);(try omega)));have:=fun o=>ag.cell (p:=⟨w.heap.size+1,o,none⟩) (by ((try simp);(try omega)));have:=fun o=>ag.frozen (p:=⟨w.heap.size+1,o,none⟩) (by ((try simp);(try omega)));have:w.heap.size<w1.heap.size:=tO;have:w.heap.size≤w1.heap.size:=tO;have:w.heap.size≤w1.heap.size+1:=tO;have:w.heap.size+1<w1.heap.size:=tO;have:w.heap.size+1≤w1.heap.size:=tO;have:w.heap.size+1≤w1.heap.size+1:=tO)|(go_at_call 122;refine (jY _ _).mono ?_;rintro _ _ ⟨rfl,rfl⟩))
 ·rw [Jm ‹_›];exact bodyPost_ret (v:=.agg #[.int .i64 s,.int .i64 e,.int .i64 t]) (by simp [results,Tryz.results199,go_sem, *]) rfl ⟨rfl,by exact zB⟩
 ·rw [Jn ‹_› ‹_›];exact bodyPost_ret (v:=.agg #[.int .i64 s,.int .i64 m,.int .i64 t]) (by simp [results,Tryz.results199,go_sem, *]) rfl ⟨rfl,by exact zB⟩
 ·rw [Jl ‹_›];exact bodyPost_ret (v:=.agg #[.int .i64 s,.int .i64 e,.int .i64 t]) (by simp [results,Tryz.results199,go_sem, *]) rfl ⟨rfl,by exact zB⟩
theorem yw (s e t f n v:Int) (w:World):Calls Tryz.prog 216 #[.agg #[.int .i64 s,.int .i64 e,.int .i64 t],.int .i64 f,.int .i64 n,.int .i64 v] w fun r w'=>pU s e t f n v r∧Below w.heap.size w w':=by
 by_cases OB:s=f
 ·subst OB
  go_enter Tryz.func216,Tryz.ntmps216
  go_wp2_with (go_at_call 162;refine (jq _ _ _ _).mono ?_;rintro _ w1 ⟨rfl,ag⟩;have hBw1:Below w.heap.size w w1:=bT zB ag;have ak:=ag.size;(try (simp at ak));have:=fun o=>ag.cell (p:=⟨w.heap.size,o,none⟩) (by ((try simp);(try omega)));have:=fun o=>ag.frozen (p:=⟨w.heap.size,o,none⟩) (by ((try simp);(try omega)));have:=fun o=>ag.cell (p:=⟨w.heap.size+1,o,none⟩) (by ((try simp);(try omega)));have:=fun o=>ag.frozen (p:=⟨w.heap.size+1,o,none⟩) (by ((try simp);(try omega)));have:=fun o=>ag.cell (p:=⟨w.heap.size+1+1,o,none⟩) (by ((try simp);(try omega)));have:=fun o=>ag.frozen (p:=⟨w.heap.size+1+1,o,none⟩) (by ((try simp);(try omega)));have:w.heap.size<w1.heap.size:=tO;have:w.heap.size≤w1.heap.size:=tO;have:w.heap.size≤w1.heap.size+1:=tO;have:w.heap.size+1<w1.heap.size:=tO;have:w.heap.size+1≤w1.heap.size:=tO;have:w.heap.size+1≤w1.heap.size+1:=tO;have:w.heap.size+1+1<w1.heap.size:=tO;have:w.heap.size+1+1≤w1.heap.size:=tO;have:w.heap.size+1+1≤w1.heap.size+1:=tO)
  all_goals first
   | (refine bodyPost_ret (v:=.tuple #[.agg #[.int .i64 n,.int .i64 e,.int .i64 v],.bool true]) (by simp [results,Tryz.results216,go_sem, *]) rfl ⟨uW (Gn ‹_› ‹_›),by exact zB⟩)
   | (refine bodyPost_ret (v:=.tuple #[.agg #[.int .i64 s,.int .i64 e,.int .i64 t],.bool false]) (by simp [results,Tryz.results216,go_sem, *]) rfl ⟨oF (by first|exact vV ‹_›|exact Gm ‹_›),by exact zB⟩)
 ·go_enter Tryz.func216,Tryz.ntmps216
  go_wp2_with (go_at_call 162;refine (jq _ _ _ _).mono ?_;rintro _ w1 ⟨rfl,ag⟩;have hBw1:Below w.heap.size w w1:=bT zB ag;have ak:=ag.size;(try (simp at ak));have:=fun o=>ag.cell (p:=⟨w.heap.size,o,none⟩) (by ((try simp);(try omega)));have:=fun o=>ag.frozen (p:=⟨w.heap.size,o,none⟩) (by ((try simp);(try omega)));have:=fun o=>ag.cell (p:=⟨w.heap.size+1,o,none⟩) (by ((try simp);(try omega)));have:=fun o=>ag.frozen (p:=⟨w.heap.size+1,o,none⟩) (by ((try simp);(try omega)));have:=fun o=>ag.cell (p:=⟨w.heap.size+1+1,o,none⟩) (by ((try simp);(try omega)));have:=fun o=>ag.frozen (p:=⟨w.heap.size+1+1,o,none⟩) (by ((try simp);(try omega)));have:w.heap.size<w1.heap.size:=tO;have:w.heap.size≤w1.heap.size:=tO;have:w.heap.size≤w1.heap.size+1:=tO;have:w.heap.size+1<w1.heap.size:=tO;have:w.heap.size+1≤w1.heap.size:=tO;have:w.heap.size+1≤w1.heap.size+1:=tO;have:w.heap.size+1+1<w1.heap.size:=tO;have:w.heap.size+1+1≤w1.heap.size:=tO;have:w.heap.size+1+1≤w1.heap.size+1:=tO)
  all_goals (refine bodyPost_ret (v:=.tuple #[.agg #[.int .i64 s,.int .i64 e,.int .i64 t],.bool false]) (by simp [results,Tryz.results216,go_sem, *]) rfl ⟨oF (by first|exact Gl ‹_›|exact vV ‹_›),by exact zB⟩)
end
end Go.Proofs.YtffhjmepfojhnaaGreat
