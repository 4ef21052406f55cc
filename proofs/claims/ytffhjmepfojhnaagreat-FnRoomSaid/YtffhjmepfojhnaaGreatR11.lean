/-
  What comes of a step of the reference model, on hands and channels that are kept whole; the lists are the call's own.
-/
import Derived.Test.YtffhjmepfojhnaaGreatR08
import Derived.BigRegion
import Derived.Test.YtffhjmepfojhnaaGreatR01
import Derived.Test.YtffhjmepfojhnaaGreatR03
import Derived.Deep.AppendLies
set_option maxRecDepth 100000
set_option maxHeartbeats 2000000
set_option linter.unusedSimpArgs false
set_option linter.unusedVariables false
namespace Go.Proofs.YtffhjmepfojhnaaGreat
section
open Go.RowKit
attribute [local simp] aC
attribute [local go_sem ↓] aB aU aL bB aM bC aG aN au aF
theorem bE (c:Ch) (h:Ha) (v1 v2:Value) (lo:Nat) (w:World) (h1:ag w lo v1 c.cells) (h2:ai w lo v2 c.words) :
  Calls Tryz.prog 198 #[.agg (af c v1 v2),.agg (aa h)] w fun r w'=>tN w w' lo v1 v2 (done c h) r∧Below w.heap.size w w':=by
 have O1:=Lib.hid h1
 have O2:=Lib.hid h2
 obtain ⟨a,p,rfl,g1⟩:=h1.seg
 obtain ⟨b,q,rfl,g2⟩:=h2.seg
 have H1:=Lib.hid g1
 have H2:=Lib.hid g2
 clear h1 h2 g1 g2
 by_cases hc:aK c=true
 ·by_cases hh:bW h=true
  ·rw [J7 hc hh]
   go_enter Tryz.func198,Tryz.ntmps198
   go_wp2_with (first|(go_at_call 112;refine ax w zB fun bb=>?_;refine (lZ c a b p q _ (aT H1 bb) (aT H2 bb)).mono ?_;rintro _ w1 ⟨rfl,ah⟩;obtain ⟨aW,ay,zz⟩:=dZ bb ah (b:=w.heap.size);(try simp at ay);(try simp [go_sem] at zz);replace bX:=dF zz;clear zz;have dG:=aW;clear ah bb)|(go_at_call 119;refine ax w zB fun bb=>?_;refine (j5 _ _).mono ?_;rintro _ w2 ⟨rfl,hbw2⟩;obtain ⟨dE,bu,zz⟩:=dZ bb hbw2 (b:=w.heap.size);(try simp at bu);(first|simp [go_sem,bX] at zz|simp [go_sem] at zz|skip);replace bX:=dF zz;clear zz;have eu:=dE;clear hbw2 bb))
   have p1:=own_below O1.out dE
   have p2:=own_below O2.out dE
   have o1:=O1.out
   have o2:=O2.out
   go_region
   go_wp2
   refine rE Tryz.results198 rfl (az c (.slice a c.cells.length p) (.slice b c.words.length q) tY) rfl (aj h tY) ⟨⟨_,_,rfl,?_,?_,ak _ _,ak _ _⟩,by exact zB⟩
   ·exact zO p1 o1
   ·exact zO p2 o2
  ·have Pe:bW h=false:=by simpa using hh
   rw [J9 Pe]
   clear hh
   go_enter Tryz.func198,Tryz.ntmps198
   go_wp2_with (first|(go_at_call 112;refine ax w zB fun bb=>?_;refine (lZ c a b p q _ (aT H1 bb) (aT H2 bb)).mono ?_;rintro _ w1 ⟨rfl,ah⟩;obtain ⟨aW,ay,zz⟩:=dZ bb ah (b:=w.heap.size);(try simp at ay);(try simp [go_sem] at zz);replace bX:=dF zz;clear zz;have dG:=aW;clear ah bb)|(go_at_call 119;refine ax w zB fun bb=>?_;refine (j5 _ _).mono ?_;rintro _ w2 ⟨rfl,hbw2⟩;obtain ⟨dE,bu,zz⟩:=dZ bb hbw2 (b:=w.heap.size);(try simp at bu);(first|simp [go_sem,bX] at zz|simp [go_sem] at zz|skip);replace bX:=dF zz;clear zz;have eu:=dE;clear hbw2 bb))
   refine rE Tryz.results198 rfl (az Ch.zero (.slice none 0 0) (.slice none 0 0) tY) rfl (aj Ha.zero tY) ⟨jX _ _ _ _ _,by exact zB⟩
 ·have hc2:aK c=false:=by simpa using hc
  rw [J8 hc2]
  clear hc
  go_enter Tryz.func198,Tryz.ntmps198
  go_wp2_with (first|(go_at_call 112;refine ax w zB fun bb=>?_;refine (lZ c a b p q _ (aT H1 bb) (aT H2 bb)).mono ?_;rintro _ w1 ⟨rfl,ah⟩;obtain ⟨aW,ay,zz⟩:=dZ bb ah (b:=w.heap.size);(try simp at ay);(try simp [go_sem] at zz);replace bX:=dF zz;clear zz;have dG:=aW;clear ah bb)|(go_at_call 119;refine ax w zB fun bb=>?_;refine (j5 _ _).mono ?_;rintro _ w2 ⟨rfl,hbw2⟩;obtain ⟨dE,bu,zz⟩:=dZ bb hbw2 (b:=w.heap.size);(try simp at bu);(first|simp [go_sem,bX] at zz|simp [go_sem] at zz|skip);replace bX:=dF zz;clear zz;have eu:=dE;clear hbw2 bb))
  refine rE Tryz.results198 rfl (az Ch.zero (.slice none 0 0) (.slice none 0 0) tY) rfl (aj Ha.zero tY) ⟨jX _ _ _ _ _,by exact zB⟩
end
section
open Go.RowKit
theorem Gv (s e t m:Int) (w:World):Calls Tryz.prog 199 #[.agg #[.int .i64 s,.int .i64 e,.int .i64 t],.int .i64 m] w fun r w'=>r=.returned (.agg #[.int .i64 s,.int .i64 (kQ s e t m),.int .i64 t])∧Below w.heap.size w w':=by
 go_enter Tryz.func199,Tryz.ntmps199
 go_wp2_with (first|(go_at_call 162;refine (kH _ _ _ _).mono ?_;rintro _ w1 ⟨rfl,ah⟩;have hBw1:Below w.heap.size w w1:=bT zB ah;have ay:=ah.size;(try (simp at ay));have:=fun o=>ah.cell (p:=⟨w.heap.size,o,none⟩) (by ((try simp);(try omega)));have:=fun o=>ah.frozen (p:=⟨w.heap.size,o,none⟩) (by ((try simp);(try omega)));have:=fun o=>ah.cell (p:=⟨w.heap.size+1,o,none⟩) (by ((try simp);(try omega)));have:=fun o=>ah.frozen (p:=⟨w.heap.size+1,o,none⟩) (by ((try simp);(try omega)));have:w.heap.size<w1.heap.size:=tO;have:w.heap.size≤w1.heap.size:=tO;have:w.heap.size≤w1.heap.size+1:=tO;have:w.heap.size+1<w1.heap.size:=tO;have:w.heap.size+1≤w1.heap.size:=tO;have:w.heap.size+1≤w1.heap.size+1:=tO)|(go_at_call 122;refine (lG _ _).mono ?_;rintro _ _ ⟨rfl,rfl⟩))
 ·rw [EZ ‹_›];exact bodyPost_ret (v:=.agg #[.int .i64 s,.int .i64 e,.int .i64 t]) (by simp [results,Tryz.results199,go_sem, *]) rfl ⟨rfl,by exact zB⟩
 ·rw [Fa ‹_› ‹_›];exact bodyPost_ret (v:=.agg #[.int .i64 s,.int .i64 m,.int .i64 t]) (by simp [results,Tryz.results199,go_sem, *]) rfl ⟨rfl,by exact zB⟩
 ·rw [EY ‹_›];exact bodyPost_ret (v:=.agg #[.int .i64 s,.int .i64 e,.int .i64 t]) (by simp [results,Tryz.results199,go_sem, *]) rfl ⟨rfl,by exact zB⟩
theorem Aw (s e t f n v:Int) (w:World):Calls Tryz.prog 216 #[.agg #[.int .i64 s,.int .i64 e,.int .i64 t],.int .i64 f,.int .i64 n,.int .i64 v] w fun r w'=>rH s e t f n v r∧Below w.heap.size w w':=by
 by_cases R5:s=f
 ·subst R5
  go_enter Tryz.func216,Tryz.ntmps216
  go_wp2_with (go_at_call 162;refine (kH _ _ _ _).mono ?_;rintro _ w1 ⟨rfl,ah⟩;have hBw1:Below w.heap.size w w1:=bT zB ah;have ay:=ah.size;(try (simp at ay));have:=fun o=>ah.cell (p:=⟨w.heap.size,o,none⟩) (by ((try simp);(try omega)));have:=fun o=>ah.frozen (p:=⟨w.heap.size,o,none⟩) (by ((try simp);(try omega)));have:=fun o=>ah.cell (p:=⟨w.heap.size+1,o,none⟩) (by ((try simp);(try omega)));have:=fun o=>ah.frozen (p:=⟨w.heap.size+1,o,none⟩) (by ((try simp);(try omega)));have:=fun o=>ah.cell (p:=⟨w.heap.size+1+1,o,none⟩) (by ((try simp);(try omega)));have:=fun o=>ah.frozen (p:=⟨w.heap.size+1+1,o,none⟩) (by ((try simp);(try omega)));have:w.heap.size<w1.heap.size:=tO;have:w.heap.size≤w1.heap.size:=tO;have:w.heap.size≤w1.heap.size+1:=tO;have:w.heap.size+1<w1.heap.size:=tO;have:w.heap.size+1≤w1.heap.size:=tO;have:w.heap.size+1≤w1.heap.size+1:=tO;have:w.heap.size+1+1<w1.heap.size:=tO;have:w.heap.size+1+1≤w1.heap.size:=tO;have:w.heap.size+1+1≤w1.heap.size+1:=tO)
  all_goals first
   | (refine bodyPost_ret (v:=.tuple #[.agg #[.int .i64 n,.int .i64 e,.int .i64 v],.bool true]) (by simp [results,Tryz.results216,go_sem, *]) rfl ⟨wO (II ‹_› ‹_›),by exact zB⟩)
   | (refine bodyPost_ret (v:=.tuple #[.agg #[.int .i64 s,.int .i64 e,.int .i64 t],.bool false]) (by simp [results,Tryz.results216,go_sem, *]) rfl ⟨qm (by first|exact xQ ‹_›|exact IG ‹_›),by exact zB⟩)
 ·go_enter Tryz.func216,Tryz.ntmps216
  go_wp2_with (go_at_call 162;refine (kH _ _ _ _).mono ?_;rintro _ w1 ⟨rfl,ah⟩;have hBw1:Below w.heap.size w w1:=bT zB ah;have ay:=ah.size;(try (simp at ay));have:=fun o=>ah.cell (p:=⟨w.heap.size,o,none⟩) (by ((try simp);(try omega)));have:=fun o=>ah.frozen (p:=⟨w.heap.size,o,none⟩) (by ((try simp);(try omega)));have:=fun o=>ah.cell (p:=⟨w.heap.size+1,o,none⟩) (by ((try simp);(try omega)));have:=fun o=>ah.frozen (p:=⟨w.heap.size+1,o,none⟩) (by ((try simp);(try omega)));have:=fun o=>ah.cell (p:=⟨w.heap.size+1+1,o,none⟩) (by ((try simp);(try omega)));have:=fun o=>ah.frozen (p:=⟨w.heap.size+1+1,o,none⟩) (by ((try simp);(try omega)));have:w.heap.size<w1.heap.size:=tO;have:w.heap.size≤w1.heap.size:=tO;have:w.heap.size≤w1.heap.size+1:=tO;have:w.heap.size+1<w1.heap.size:=tO;have:w.heap.size+1≤w1.heap.size:=tO;have:w.heap.size+1≤w1.heap.size+1:=tO;have:w.heap.size+1+1<w1.heap.size:=tO;have:w.heap.size+1+1≤w1.heap.size:=tO;have:w.heap.size+1+1≤w1.heap.size+1:=tO)
  all_goals (refine bodyPost_ret (v:=.tuple #[.agg #[.int .i64 s,.int .i64 e,.int .i64 t],.bool false]) (by simp [results,Tryz.results216,go_sem, *]) rfl ⟨qm (by first|exact IE ‹_›|exact xQ ‹_›),by exact zB⟩)
end
section
open Go.RowKit
theorem ag.open1 {w:World} {lo:Nat} {v:Value} {cs:List C3} (h:ag w lo v cs) {i:Nat} (hi:i<cs.length) :
  ∃ g cap,v=.slice (some ⟨g,0,none⟩) cs.length cap∧lo≤g∧g<w.heap.size∧(∀ j,j<3→w.cell? ⟨g,i*3+j,none⟩=some ((cs.getD i ⟨0,0,0⟩).val j))∧∀ o,w.frozen? ⟨g,o,none⟩=false:=by
 have h2:=h
 rcases h.2 with ⟨_,h0⟩|⟨g,cap,cur,rfl,hl,hg,_⟩
 ·omega
 ·refine ⟨g,cap,rfl,hl,(Array.getElem?_eq_some_iff.1 hg).1,fun j hj=>?_,fun o=>by simp [World.frozen?,hg]⟩
  have:=h2.cells (g:=g) rfl (i*3+j) _ (iD cs i j hi hj)
  have e2:(⟨g,0,none⟩:Addr).add (i*3+j)=⟨g,i*3+j,none⟩:=by generalize i*3+j=m;by_cases e:m=0 <;> simp [Addr.add,e]
  rw [e2] at this
  exact this
theorem ag.set {w:World} {lo g cap:Nat} {cs:List C3} (h:ag w lo (.slice (some ⟨g,0,none⟩) cs.length cap) cs) {i:Nat} (hi:i<cs.length) (x:C3) :
  ag (((w.setCell ⟨g,i*3,none⟩ (.int .i64 x.s)).setCell ⟨g,i*3+1,none⟩ (.int .i64 x.e)).setCell ⟨g,i*3+2,none⟩ (.int .i64 x.t)) lo (.slice (some ⟨g,0,none⟩) cs.length cap) (cs.set i x):=by
 have h1:=iU h (i*3) (by rw [iT];omega) (.int .i64 x.s)
 have h2:=iU h1 (i*3+1) (by rw [List.length_set,iT];omega) (.int .i64 x.e)
 have h3:=iU h2 (i*3+2) (by rw [List.length_set,List.length_set,iT];omega) (.int .i64 x.t)
 unfold ag
 rw [qX,List.length_set]
 exact h3
theorem ag.setS {w:World} {lo g cap:Nat} {cs:List C3} (h:ag w lo (.slice (some ⟨g,0,none⟩) cs.length cap) cs) {i:Nat} (hi:i<cs.length) (s:Int) :
  ag (w.setCell ⟨g,i*3,none⟩ (.int .i64 s)) lo (.slice (some ⟨g,0,none⟩) cs.length cap) (cs.set i { cs.getD i ⟨0,0,0⟩ with s:=s }):=by
 have h1:=iU h (i*3) (by rw [iT];omega) (.int .i64 s)
 have g1:=iD cs i 1 hi tO
 have g2:=iD cs i 2 hi tO
 simp only [ib,C3.val] at g1 g2
 have e1:∀ (l:List Value) (j:Nat) (x:Value),l[j]?=some x→l.set j x=l:=fun l j x h=>by
  apply List.ext_getElem?
  intro n
  rw [List.getElem?_set]
  by_cases e:j=n
  ·subst e;simp only [if_true];rw [h];simp;exact (List.getElem?_eq_some_iff.1 h).1
  ·rw [if_neg e]
 unfold ag
 rw [qX,List.length_set]
 simp only
 rw [e1 _ (i*3+1) _ (by rw [List.getElem?_set_ne tO];exact g1),e1 _ (i*3+2) _ (by rw [List.getElem?_set_ne tO];exact g2)]
 exact h1
theorem iq (c:Ch) (i:Nat) (st:Int):(bP c i st).cells=c.cells.set i { c.cells.getD i ⟨0,0,0⟩ with s:=st }:=by simp [bP,setAt,cellAt]
theorem Ay (c:Ch) (i:Nat) (st:Int) (v1 v2:Value) (lo:Nat) (w:World) (h1:ag w lo v1 c.cells) (h2:ai w lo v2 c.words) (hi:i<c.cells.length) :
  Calls Tryz.prog 203 #[.agg #[.int .i64 c.cap,.int .i64 c.sent,.int .i64 c.got,.int .i64 c.fin,v1,v2],.int .i64 i,.int .i64 st] w fun r w'=>r=.returned (.agg #[.int .i64 c.cap,.int .i64 c.sent,.int .i64 c.got,.int .i64 c.fin,v1,v2])∧ag w' lo v1 (bP c i st).cells∧ai w' lo v2 c.words∧w.grownBy w' v1.ownBlock:=by
 have O2:=Lib.hid h2
 have hne:=h1.ne h2
 obtain ⟨b,q,rfl,_⟩:=h2.seg
 obtain ⟨g,cap,rfl,hlo,hlt,hcell,hfr⟩:=h1.open1 hi
 have O1:=Lib.hid h1
 have c0:=hcell 0 tO
 simp only [C3.val,Nat.add_zero] at c0
 have hi0:(0:Int)≤(i:Int):=by omega
 have hi1:(i:Int)<(c.cells.length:Int):=by omega
 have hgw:w.heap.size≠g:=by omega
 have sG:w.heap.size+1≠g:=by omega
 have P8:g≠w.heap.size:=by omega
 have fJ:g≠w.heap.size+1:=by omega
 generalize hcg:c.cells.getD i ⟨0,0,0⟩=x at c0
 clear h1 h2 hcell
 go_enter Tryz.func203,Tryz.ntmps203
 go_wp2
 have o1:=O1.out
 have o2:=O2.out
 have P1:=ag.setS o1 hi st
 rw [iq]
 refine bodyPost_ret (v:=.agg #[.int .i64 c.cap,.int .i64 c.sent,.int .i64 c.got,.int .i64 c.fin,.slice (some ⟨g,0,none⟩) c.cells.length cap,.slice b c.words.length q]) (by simp [results,Tryz.results203,go_sem, *]) rfl ⟨rfl,?_,?_,?_⟩
 ·exact zO P1 o1
 ·(repeat first|with_reducible exact o2|with_reducible refine zR ?_ _|with_reducible refine vv ?_|((with_reducible first|refine aS ?_ ?_ _|refine gp ?_ ?_);rotate_left;focus first|(refine own_ne o2 ?_;(try dsimp only);omega)|(refine gI o2 ?_;(try dsimp only);omega)|exact fun h=>ag.ne o1 o2 _ rfl h))
 ·show Gr g w _
  (repeat (first|with_reducible assumption|with_reducible exact gR _ _|with_reducible refine gA ?_|with_reducible refine gD ?_|with_reducible refine gS ?_ (.inl rfl)|((with_reducible refine Rl ?_ (.inr ?_));rotate_left;(focus ((try dsimp only);(try simp);(try omega))))|((with_reducible refine gS ?_ (.inr ?_));rotate_left;(focus ((try dsimp only);(try simp);(try omega))))))
theorem rR (c:Ch) (i:Nat) (f t v:Int):(aY c i f t v).cells=c.cells.set i (lX (c.cells.getD i ⟨0,0,0⟩) f t v):=by simp [aY,setAt,cellAt]
theorem xA (c:Ch) (i:Nat) (f t v:Int):bn c i f t v=xS (c.cells.getD i ⟨0,0,0⟩) f t v:=by simp [bn,cellAt]
theorem Dn (c:Ch) (i:Nat) (f t v:Int) (v1 v2:Value) (lo:Nat) (w:World) (h1:ag w lo v1 c.cells) (h2:ai w lo v2 c.words) (hi:i<c.cells.length) :
  Calls Tryz.prog 214 #[.agg #[.int .i64 c.cap,.int .i64 c.sent,.int .i64 c.got,.int .i64 c.fin,v1,v2],.int .i64 i,.int .i64 f,.int .i64 t,.int .i64 v] w fun r w'=>r=.returned (.tuple #[.agg #[.int .i64 c.cap,.int .i64 c.sent,.int .i64 c.got,.int .i64 c.fin,v1,v2],.bool (bn c i f t v)])∧ag w' lo v1 (aY c i f t v).cells∧ai w' lo v2 c.words∧w.grownBy w' v1.ownBlock:=by
 have O2:=Lib.hid h2
 have hne:=h1.ne h2
 obtain ⟨b,q,rfl,_⟩:=h2.seg
 obtain ⟨g,cap,rfl,hlo,hlt,hcell,hfr⟩:=h1.open1 hi
 have O1:=Lib.hid h1
 have c0:=hcell 0 tO
 have c1:=hcell 1 tO
 have c2:=hcell 2 tO
 simp only [C3.val,Nat.add_zero] at c0 c1 c2
 have hi0:(0:Int)≤(i:Int):=by omega
 have hi1:(i:Int)<(c.cells.length:Int):=by omega
 have hgw:w.heap.size≠g:=by omega
 have sG:w.heap.size+1≠g:=by omega
 have P8:g≠w.heap.size:=by omega
 have fJ:g≠w.heap.size+1:=by omega
 rw [rR,xA]
 unfold xS lX
 generalize hcg:c.cells.getD i ⟨0,0,0⟩=x at c0 c1 c2
 clear h1 h2 hcell hcg
 go_enter Tryz.func214,Tryz.ntmps214
 go_wp2_with fail;refine ax w zB fun bb=>?_;refine (Aw _ _ _ f t v _).mono ?_;rintro _ w1 ⟨hr,ah⟩;have aW:Below w.heap.size w w1:=bT bb ah;have ay:=ah.size;(try simp at ay);have zz:=And.intro (fun o=>ah.cell (p:=⟨w.heap.size+1,o,none⟩) tS) <| And.intro (fun o=>ah.frozen (p:=⟨w.heap.size+1,o,none⟩) tS) <| And.intro (fun o=>ah.cell (p:=⟨w.heap.size,o,none⟩) tS) <| fun o=>ah.frozen (p:=⟨w.heap.size,o,none⟩) tS;(try simp [go_sem] at zz);(try clear di dz);(try clear dV eD);obtain ⟨di,dz,dV,eD⟩:=zz;(try clear bZ);have bZ:w.heap.size+1<w1.heap.size:=tO;(try clear dJ);have dJ:w.heap.size<w1.heap.size:=tO;have dG:Below w.heap.size w w1:=aW;clear ah bb
 unfold rH at hr
 subst hr
 have o1:=O1.out
 have o2:=O2.out
 have p1:=own_below o1 aW
 have p2:=own_below o2 aW
 have d1:=fun o=>(aW.cell (p:=⟨g,o,none⟩) hlt)
 have d2:=fun o=>(aW.frozen (p:=⟨g,o,none⟩) hlt)
 have kL:g<w1.heap.size:=by omega
 have R6:w1.heap.size≠g:=by omega
 have R7:g≠w1.heap.size:=by omega
 have P1:=ag.set p1 hi (lX x f t v)
 simp only [lX] at P1
 go_wp2
 refine bodyPost_ret (v:=.tuple #[.agg #[.int .i64 c.cap,.int .i64 c.sent,.int .i64 c.got,.int .i64 c.fin,.slice (some ⟨g,0,none⟩) c.cells.length cap,.slice b c.words.length q],.bool (jT x.s x.e x.t f t v)]) (by simp [results,Tryz.results214,go_sem, *]) rfl ⟨rfl,?_,?_,?_⟩
 ·exact zO P1 o1
 ·(repeat first|with_reducible exact p2|with_reducible refine zR ?_ _|with_reducible refine vv ?_|((with_reducible first|refine aS ?_ ?_ _|refine gp ?_ ?_);rotate_left;focus first|(refine own_ne o2 ?_;(try dsimp only);omega)|(refine gI o2 ?_;(try dsimp only);omega)|exact fun h=>ag.ne o1 o2 _ rfl h))
 ·have hg1:Gr g w w1:=pO aW
  show Gr g w _
  (repeat (first|with_reducible assumption|with_reducible exact gR _ _|with_reducible refine gA ?_|with_reducible refine gD ?_|with_reducible refine gS ?_ (.inl rfl)|((with_reducible refine Rl ?_ (.inr ?_));rotate_left;(focus ((try dsimp only);(try simp);(try omega))))|((with_reducible refine gS ?_ (.inr ?_));rotate_left;(focus ((try dsimp only);(try simp);(try omega))))))
end
section
open Go.RowKit
attribute [local simp] aC
attribute [local go_sem ↓] aB aU aL bB aM bC aG aN au aF
theorem jq (c:Ch) (i:Nat) (st:Int) (v1 v2:Value) (lo:Nat) (w:World) (h1:ag w lo v1 c.cells) (h2:ai w lo v2 c.words) (hi:i<c.cells.length) :
  Calls Tryz.prog 203 #[.agg (af c v1 v2),.int .i64 i,.int .i64 st] w fun r w'=>r=.returned (.agg (af c v1 v2))∧ag w' lo v1 (bP c i st).cells∧ai w' lo v2 c.words∧w.grownBy w' v1.ownBlock:=Ay c i st v1 v2 lo w h1 h2 hi
theorem iW (c:Ch) (i:Nat) (f t v:Int) (v1 v2:Value) (lo:Nat) (w:World) (h1:ag w lo v1 c.cells) (h2:ai w lo v2 c.words) (hi:i<c.cells.length) :
  Calls Tryz.prog 214 #[.agg (af c v1 v2),.int .i64 i,.int .i64 f,.int .i64 t,.int .i64 v] w fun r w'=>r=.returned (.tuple #[.agg (af c v1 v2),.bool (bn c i f t v)])∧ag w' lo v1 (aY c i f t v).cells∧ai w' lo v2 c.words∧w.grownBy w' v1.ownBlock:=Dn c i f t v v1 v2 lo w h1 h2 hi
theorem iB {c:Ch} {h:Ha} {x:C3} (hx:cellAt c h.cell=x) (n:Int) (hn:x.s=n) :
  je c h=if n == 0 then ({ bM h x with pos:=4 },true) else if n == 1 then ({ bM h x with pos:=6 },true) else if n == 4 then ({ bM h x with pos:=7 },true)
   else if n == 8 then (anew (bM h x),true) else if n == 10 then (anew (bM h x),true) else (bM h x,false):=by
 subst hn;subst hx;rfl
theorem tT (c:Ch) (h:Ha) (a b:Option Addr) (p q:Nat) (w:World) (h1:eY w w.heap.size a c.cells) (hc0:0≤h.cell) (hc1:h.cell<c.cells.length) :
  Calls Tryz.prog 200 #[.agg (af c (.slice a c.cells.length p) (.slice b c.words.length q)),.agg (aa h)] w fun r w'=>r=.returned (.tuple #[.agg (aa (je c h).1),.bool (je c h).2])∧Below w.heap.size w w':=by
 obtain ⟨i,hci⟩:∃ i:Nat,h.cell=(i:Int):=⟨h.cell.toNat,by omega⟩
 have hi:i<c.cells.length:=by omega
 obtain ⟨bb,bo,rfl,hb,hcell⟩:∃ b' o,a=some ⟨b',o,none⟩∧b'<w.heap.size∧Hid (∀ j,j<3→w.cell? ⟨b',o+i*3+j,none⟩=some ((c.cells.getD i ⟨0,0,0⟩).val j)):=by
  rcases h1 with h0|⟨b',o',e,h1,h2⟩
  ·omega
  ·exact ⟨b',o',e,h1,fun j hj=>by simpa [ib] using h2 i j hi hj⟩
 clear h1
 have c0:=hcell.out 0 tO
 have c2:=hcell.out 2 tO
 have hx:Hid (cellAt c h.cell=c.cells.getD i ⟨0,0,0⟩):=by simp [cellAt,Hid,hci]
 clear hcell
 generalize c.cells.getD i ⟨0,0,0⟩=x at *
 obtain ⟨s,e,t⟩:=x
 simp only [C3.val,Nat.add_zero] at c0 c2
 have hi0:(0:Int)≤(i:Int):=by omega
 have hi1:(i:Int)<(c.cells.length:Int):=by omega
 have hb1:bb<w.heap.size+1:=by omega
 have hb2:bb<w.heap.size+1+1:=by omega
 have hne:bb≠w.heap.size:=by omega
 have hne1:bb≠w.heap.size+1:=by omega
 have hne2:bb≠w.heap.size+1+1:=by omega
 by_cases hn:s=0∨s=1∨s=4∨s=8∨s=10
 ·rcases hn with rfl|rfl|rfl|rfl|rfl
  ·rw [show je c h=({ bM h ⟨0,e,t⟩ with pos:=4 },true) from iB hx.out 0 rfl]
   go_enter Tryz.func200,Tryz.ntmps200
   go_wp2
   refine bodyPost_ret (ja Tryz.results200 rfl (aj { bM h ⟨0,e,t⟩ with pos:=4 } (by simp [go_sem, *] <;> first|rfl|simp [bM,anew,hci]))) rfl ⟨rfl,by exact zB⟩
  ·rw [show je c h=({ bM h ⟨1,e,t⟩ with pos:=6 },true) from iB hx.out 1 rfl]
   go_enter Tryz.func200,Tryz.ntmps200
   go_wp2
   refine bodyPost_ret (ja Tryz.results200 rfl (aj { bM h ⟨1,e,t⟩ with pos:=6 } (by simp [go_sem, *] <;> first|rfl|simp [bM,anew,hci]))) rfl ⟨rfl,by exact zB⟩
  ·rw [show je c h=({ bM h ⟨4,e,t⟩ with pos:=7 },true) from iB hx.out 4 rfl]
   go_enter Tryz.func200,Tryz.ntmps200
   go_wp2
   refine bodyPost_ret (ja Tryz.results200 rfl (aj { bM h ⟨4,e,t⟩ with pos:=7 } (by simp [go_sem, *] <;> first|rfl|simp [bM,anew,hci]))) rfl ⟨rfl,by exact zB⟩
  ·rw [show je c h=(anew (bM h ⟨8,e,t⟩),true) from iB hx.out 8 rfl]
   go_enter Tryz.func200,Tryz.ntmps200
   go_wp2_with fail;refine ax w zB fun bb=>?_;refine (jW _ _).mono ?_;rintro _ w1 ⟨rfl,ah⟩;obtain ⟨aW,ay,zz⟩:=Ct bb ah (b:=w.heap.size);(try simp at ay);(try simp [go_sem] at zz);replace bX:=Cs zz;clear zz ah bb
   go_wp2
   refine bodyPost_ret (ja Tryz.results200 rfl (aj (anew (bM h ⟨8,e,t⟩)) (by simp [go_sem, *] <;> first|rfl|simp [bM,anew,hci]))) rfl ⟨rfl,by exact zB⟩
  ·rw [show je c h=(anew (bM h ⟨10,e,t⟩),true) from iB hx.out 10 rfl]
   go_enter Tryz.func200,Tryz.ntmps200
   go_wp2_with fail;refine ax w zB fun bb=>?_;refine (jW _ _).mono ?_;rintro _ w1 ⟨rfl,ah⟩;obtain ⟨aW,ay,zz⟩:=Ct bb ah (b:=w.heap.size);(try simp at ay);(try simp [go_sem] at zz);replace bX:=Cs zz;clear zz ah bb
   go_wp2
   refine bodyPost_ret (ja Tryz.results200 rfl (aj (anew (bM h ⟨10,e,t⟩)) (by simp [go_sem, *] <;> first|rfl|simp [bM,anew,hci]))) rfl ⟨rfl,by exact zB⟩
 ·have n0:(s == 0)=false:=by simp;omega
  have n1:(s == 1)=false:=by simp;omega
  have n4:(s == 4)=false:=by simp;omega
  have n8:(s == 8)=false:=by simp;omega
  have n10:(s == 10)=false:=by simp;omega
  rw [show je c h=(bM h ⟨s,e,t⟩,false) from by rw [iB hx.out s rfl,n0,n1,n4,n8,n10];rfl]
  clear hn
  go_enter Tryz.func200,Tryz.ntmps200
  go_wp2
  refine bodyPost_ret (ja Tryz.results200 rfl (aj (bM h ⟨s,e,t⟩) (by simp [go_sem, *] <;> first|rfl|simp [bM,anew,hci]))) rfl ⟨rfl,by exact zB⟩
end
section
open Go.RowKit
attribute [local simp] aC
attribute [local go_sem ↓] aB aU aL bB aM bC aG aN au aF
def Fx (w w':World) (lo:Nat) (v1 v2:Value) (c:Ch) (x:Ch × Ha) (r:Ending):Prop :=
 ∃ v3,r=.returned (.tuple #[.agg (af c v1 v3),.agg (aa x.2)])∧ag w' lo v1 x.1.cells∧ai w' lo v3 x.1.words∧dW w v2 v3∧ik v1.ownBlock v2.ownBlock w w'
theorem Az (c:Ch) (h:Ha) (st th el:Int) (v1 v2:Value) (lo:Nat) (w:World) (h1:ag w lo v1 c.cells) (h2:ai w lo v2 c.words) (hf:80≤c.words.length) :
  Calls Tryz.prog 213 #[.agg (af c v1 v2),.agg (aa h),.int .i64 st,.int .i64 th,.int .i64 el] w fun r w'=>Fx w w' lo v1 v2 c (eT c h st th el) r:=by
 have e:eT c h st th el=(c,aP 4 0):=by simp [eT,hf]
 rw [e]
 obtain ⟨a1,q1,rfl,_⟩:=h1.seg
 obtain ⟨a2,q2,rfl,_⟩:=h2.seg
 have O1:=Lib.hid h1
 have O2:=Lib.hid h2
 have hfi:(80:Int)≤(c.words.length:Int):=by omega
 clear h1 h2 e
 go_enter Tryz.func213,Tryz.ntmps213
 go_wp2_with fail
 go_region_with (go_at_call 130;refine ax w zB fun bb=>?_;refine (fO _ _ _).mono ?_;rintro _ w1 ⟨rfl,ah⟩;obtain ⟨aW,ay,zz⟩:=dZ bb ah (b:=w.heap.size);(try simp at ay);(try simp [go_sem] at zz);replace bX:=dF zz;clear zz;have dG:=aW;clear ah bb)
 all_goals (go_wp2_with fail)
 all_goals (have o1:=O1.out;have o2:=O2.out;have p1:=own_below o1 aW;have p2:=own_below o2 aW)
 all_goals (refine bodyPost_ret (pQ Tryz.results213 rfl (az c (.slice a1 c.cells.length q1) (.slice a2 c.words.length q2) tY) rfl (aj (aP 4 0) tY)) rfl ⟨_,rfl,?_,?_,ak _ _,dx zB⟩)
 all_goals first|(repeat first|with_reducible exact p1|with_reducible refine zR ?_ _|with_reducible refine vv ?_|((with_reducible first|refine aS ?_ ?_ _|refine gp ?_ ?_);rotate_left;focus first|(refine own_ne o1 ?_;(try dsimp only);omega)|(refine gI o1 ?_;(try dsimp only);omega)))|skip
 all_goals first|(repeat first|with_reducible exact p2|with_reducible refine zR ?_ _|with_reducible refine vv ?_|((with_reducible first|refine aS ?_ ?_ _|refine gp ?_ ?_);rotate_left;focus first|(refine own_ne o2 ?_;(try dsimp only);omega)|(refine gI o2 ?_;(try dsimp only);omega)))|skip
theorem Gw (c:Ch) (h:Ha) (st th el:Int) (v1 v2:Value) (lo:Nat) (w:World) (h1:ag w lo v1 c.cells) (h2:ai w lo v2 c.words) (hf:c.words.length<80) (hc0:0≤h.cell) (hc1:h.cell<c.cells.length) (ht:bn c h.cell h.seen st (c.words.length+1)=false) :
  Calls Tryz.prog 213 #[.agg (af c v1 v2),.agg (aa h),.int .i64 st,.int .i64 th,.int .i64 el] w fun r w'=>Fx w w' lo v1 v2 c (eT c h st th el) r:=by
 have hn:¬ 80≤c.words.length:=by omega
 have e:eT c h st th el=(aY c h.cell h.seen st (c.words.length+1),{ h with pos:=el }):=by simp [eT,hn,ht]
 rw [e]
 obtain ⟨i,hci⟩:∃ i:Nat,h.cell=(i:Int):=⟨h.cell.toNat,by omega⟩
 have hi:i<c.cells.length:=by omega
 have O1:=Lib.hid h1
 have O2:=Lib.hid h2
 have T:=Lib.hid (iW c i h.seen st ((c.words.length:Int)+1) v1 v2 lo)
 rw [hci] at ht ⊢
 have b1:=jF h1
 obtain ⟨a1,q1,rfl,_⟩:=h1.seg
 obtain ⟨a2,q2,rfl,_⟩:=h2.seg
 have hfi:¬ (80:Int)≤(c.words.length:Int):=by omega
 have nw:some w.heap.size≠(Value.slice a1 c.cells.length q1).ownBlock:=fun e=>by have:=b1 _ e.symm;omega
 have M5:some (w.heap.size+1)≠(Value.slice a1 c.cells.length q1).ownBlock:=fun e=>by have:=b1 _ e.symm;omega
 have M6:some (w.heap.size+1+1)≠(Value.slice a1 c.cells.length q1).ownBlock:=fun e=>by have:=b1 _ e.symm;omega
 have NG:some (w.heap.size+1+1+1)≠(Value.slice a1 c.cells.length q1).ownBlock:=fun e=>by have:=b1 _ e.symm;omega
 clear h1 h2 e hf hn
 go_enter Tryz.func213,Tryz.ntmps213
 have o1:=O1.out
 have o2:=O2.out
 go_wp2_with fail;refine (T.out _ (zO o1 o1) (zO o2 o2) hi).mono ?_;rintro _ w1 ⟨rfl,p1,p2,hgw1⟩;have ay:=hgw1.size;(try (simp at ay));have zz:=NU hgw1 (b:=w.heap.size);(try simp [go_sem] at zz);replace bX:=dF zz;clear zz;have jZ:=FV (w:=w) zB hgw1;clear hgw1
 rw [ht]
 go_wp2
 go_region
 go_wp2
 refine bodyPost_ret (pQ Tryz.results213 rfl (az c (.slice a1 c.cells.length q1) (.slice a2 c.words.length q2) tY) rfl (aj { h with pos:=el,cell:=(i:Int) } tZ)) rfl ⟨_,rfl,?_,?_,ak _ _,lW (by (repeat (first|with_reducible assumption|with_reducible refine Rm ?_|with_reducible refine Rn ?_|((with_reducible refine Rp ?_ ?_);rotate_left;(focus ((try dsimp only);(try simp);(try omega))))|((with_reducible refine Ro ?_ ?_);rotate_left;(focus ((try dsimp only);(try simp);(try omega)))))))⟩
 ·exact zO p1 o1
 ·show ai _ lo _ c.words
  exact zO p2 o2
theorem M7 (w:World) (x:Value) (t:TypeId):∀ j u,[x][j]?=some u→(w.alloc (.cells #[x] t)).cell? ((⟨w.heap.size,0,none⟩:Addr).add j)=some u:=by
 intro j u h
 have hj:j<1:=(List.getElem?_eq_some_iff.1 h).1
 have:j=0:=by omega
 subst this
 simp [Addr.add] at h ⊢;exact h
theorem Dp (c:Ch) (h:Ha) (st th el:Int) (v1 v2:Value) (lo:Nat) (w:World) (h1:ag w lo v1 c.cells) (h2:ai w lo v2 c.words) (hf:c.words.length<80) (hc0:0≤h.cell) (hc1:h.cell<c.cells.length) (ht:bn c h.cell h.seen st (c.words.length+1)=true) (hlo:lo≤w.heap.size) :
  Calls Tryz.prog 213 #[.agg (af c v1 v2),.agg (aa h),.int .i64 st,.int .i64 th,.int .i64 el] w fun r w'=>Fx w w' lo v1 v2 c (eT c h st th el) r:=by
 have hn:¬ 80≤c.words.length:=by omega
 have e:eT c h st th el=({ aY c h.cell h.seen st (c.words.length+1) with words:=c.words ++ [0] },{ h with mine:=c.words.length+1,pos:=th }):=by simp [eT,hn,ht]
 rw [e]
 obtain ⟨i,hci⟩:∃ i:Nat,h.cell=(i:Int):=⟨h.cell.toNat,by omega⟩
 have hi:i<c.cells.length:=by omega
 have O1:=Lib.hid h1
 have O2:=Lib.hid h2
 have T:=Lib.hid (iW c i h.seen st ((c.words.length:Int)+1) v1 v2 lo)
 rw [hci] at ht ⊢
 have b2:=jF h2
 have b1:=jF h1
 obtain ⟨a1,q1,rfl,_⟩:=h1.seg
 obtain ⟨a2,q2,rfl,_⟩:=h2.seg
 have hfi:¬ (80:Int)≤(c.words.length:Int):=by omega
 have nw:some w.heap.size≠(Value.slice a1 c.cells.length q1).ownBlock:=fun e=>by have:=b1 _ e.symm;omega
 have M5:some (w.heap.size+1)≠(Value.slice a1 c.cells.length q1).ownBlock:=fun e=>by have:=b1 _ e.symm;omega
 have M6:some (w.heap.size+1+1)≠(Value.slice a1 c.cells.length q1).ownBlock:=fun e=>by have:=b1 _ e.symm;omega
 have NG:some (w.heap.size+1+1+1)≠(Value.slice a1 c.cells.length q1).ownBlock:=fun e=>by have:=b1 _ e.symm;omega
 have mw:∀ j,w.heap.size≤j→some j≠(Value.slice a2 c.words.length q2).ownBlock:=fun j hj e=>by have:=b2 _ e.symm;omega
 have V5:=mw w.heap.size tO
 have V6:=mw (w.heap.size+1) tO
 have V7:=mw (w.heap.size+1+1) tO
 have Xl:=mw (w.heap.size+1+1+1) tO
 clear h1 h2 e hf hn
 go_enter Tryz.func213,Tryz.ntmps213
 have o1:=O1.out
 have o2:=O2.out
 go_wp2_with fail;refine (T.out _ (zO o1 o1) (zO o2 o2) hi).mono ?_;rintro _ w1 ⟨rfl,p1,p2,hgw1⟩;have ay:=hgw1.size;(try (simp at ay));have zz:=And.intro (dB hgw1 (b:=w.heap.size+1+1+1) tS (by assumption)) <| And.intro (dB hgw1 (b:=w.heap.size+1+1) tS (by assumption)) <| And.intro (dB hgw1 (b:=w.heap.size+1) tS (by assumption)) <| dB hgw1 (b:=w.heap.size) tS (by assumption);(try simp [go_sem] at zz);(try clear aA bK bL aR);(try clear aH cB cK bq);(try clear bz di dz bZ);(try clear dw dV eD dJ);obtain ⟨aA,aH,bz,dw⟩:=zz;obtain ⟨bK,bL,aR⟩:=bO aA;obtain ⟨cB,cK,bq⟩:=bO aH;obtain ⟨di,dz,bZ⟩:=bO bz;obtain ⟨dV,eD,dJ⟩:=bO dw;have jZ:=FV (w:=w) zB hgw1;clear hgw1
 rw [ht]
 obtain ⟨i0,hi0,hz0,hz1,hz2⟩:=info_parts ku
 go_wp2_with (at_builtin;refine wpList_append_lies _ rfl _ _ 29 rfl lo 2 i0 _ 1 8 Tryz.underlying29 hi0 hz0 hz1 hz2 rfl (by decide) (.slice a2 c.words.length q2) c.words.length (ints c.words) rfl (World.ownsRow.alloc (World.ownsRow.alloc p2 _) _) ⟨w1.heap.size+1,0,none⟩ 1 1 [.int .i64 0] rfl rfl ?c2 (by simp [Value.oneCell']) tO ?c3 ?c4 ?c5 (w1.heap.size+1+1) (by simp) ?_)
 case c2=>have:=M7 (w1.alloc (.cells (af c (.slice a1 c.cells.length q1) (.slice a2 c.words.length q2)) 31)) (.int .i64 0) 2;simpa using this
 case c3=>unfold maxLen;omega
 case c4=>omega
 case c5=>simp;omega
 intro Le q4 w4 o4 g4 hat P9
 have Xm:=mw w1.heap.size tO
 have CU:w1.heap.size<w1.heap.size+1:=by omega
 have iw:=g4.size;(try (simp at iw));have zz:=And.intro (dB g4 (b:=w1.heap.size) tS (by assumption)) <| And.intro (dB g4 (b:=w.heap.size+1+1+1) tS (by assumption)) <| And.intro (dB g4 (b:=w.heap.size+1+1) tS (by assumption)) <| And.intro (dB g4 (b:=w.heap.size+1) tS (by assumption)) <| dB g4 (b:=w.heap.size) tS (by assumption);(first|simp [go_sem,aA,aH,bz,dw,dJ,CU,bZ,bq,aR] at zz|simp [go_sem] at zz|skip);(try clear PD Jt Ju CU);(try clear aA bK bL aR);(try clear aH cB cK bq);(try clear bz di dz bZ);(try clear dw dV eD dJ);obtain ⟨PD,aA,aH,bz,dw⟩:=zz;obtain ⟨Jt,Ju,CU⟩:=bO PD;obtain ⟨bK,bL,aR⟩:=bO aA;obtain ⟨cB,cK,bq⟩:=bO aH;obtain ⟨di,dz,bZ⟩:=bO bz;obtain ⟨dV,eD,dJ⟩:=bO dw
 have r1:ag w4 lo (.slice a1 c.cells.length q1) (aY c (i:Int) h.seen st (c.words.length+1)).cells:=((World.ownsRow.alloc (World.ownsRow.alloc p1 _) _)).kept g4 (xX p1 p2)
 have r2:ai w4 lo (.slice (some ⟨Le,0,none⟩) (c.words.length+1) q4) (c.words ++ [0]):=ai.snoc o4
 have hfresh:dW w (.slice a2 c.words.length q2) (.slice (some ⟨Le,0,none⟩) (c.words.length+1) q4):=fun j hj=>by
  simp [Value.ownBlock] at hj
  subst hj
  rcases hat with hat|hat
  ·exact .inl hat
  ·exact .inr tO
 have hgb:∀ j,w.heap.size≤j→j<w1.heap.size+1→Le≠j:=fun j h1 h2 e=>by
  rcases hat with hat|hat
  ·have:=b2 _ hat;omega
  ·omega
 clear o4
 have V8:∀ j,w.heap.size≤j→j<w1.heap.size+1→(Value.slice (some ⟨Le,0,none⟩) (c.words.length+1) q4).ownBlock≠some j:=fun j h1 h2 e=>hgb j h1 h2 (by simpa [Value.ownBlock] using e)
 have hO:ik (Value.slice a1 c.cells.length q1).ownBlock (Value.slice a2 c.words.length q2).ownBlock w w4:=fu (lW jZ) (fu (dx zB) (Rf g4))
 clear g4
 obtain ⟨k0,k1,k2,k3⟩:=kZ (a:=w.heap.size) (b:=w1.heap.size)
 go_wp2
 go_region
 go_wp2
 refine bodyPost_ret (pQ Tryz.results213 rfl (az c (.slice a1 c.cells.length q1) (.slice (some ⟨Le,0,none⟩) (c.words.length+1) q4) tY) rfl (aj { h with cell:=(i:Int),mine:=c.words.length+1,pos:=th } tZ)) rfl ⟨_,rfl,?_,?_,hfresh,?_⟩
 ·exact zO r1 o1
 ·exact zP r2 r2 V8
 ·exact zN
theorem pW (c:Ch) (h:Ha) (st th el:Int) (v1 v2:Value) (lo:Nat) (w:World) (h1:ag w lo v1 c.cells) (h2:ai w lo v2 c.words) (hc0:0≤h.cell) (hc1:h.cell<c.cells.length) (hlo:lo≤w.heap.size) :
  Calls Tryz.prog 213 #[.agg (af c v1 v2),.agg (aa h),.int .i64 st,.int .i64 th,.int .i64 el] w fun r w'=>Fx w w' lo v1 v2 c (eT c h st th el) r:=by
 by_cases hf:80≤c.words.length
 ·exact Az c h st th el v1 v2 lo w h1 h2 hf
 ·cases ht:bn c h.cell h.seen st (c.words.length+1) with
  | true=>exact Dp c h st th el v1 v2 lo w h1 h2 tO hc0 hc1 ht hlo
  | false=>exact Gw c h st th el v1 v2 lo w h1 h2 tO hc0 hc1 ht
end
section
open Go.RowKit
attribute [local simp] aC
attribute [local go_sem ↓] aB aU aL bB aM bC aG aN au aF
def cz (w w':World) (lo:Nat) (v1 v2:Value) (x:St) (r:Ending):Prop:=tN w w' lo v1 v2 x r∧ik v1.ownBlock v2.ownBlock w w'
abbrev cu (F:FuncId) (c:Ch) (h:Ha) (v1 v2:Value) (lo:Nat) (w:World) (x:St):Prop:=Calls Tryz.prog F #[.agg (af c v1 v2),.agg (aa h)] w fun r w'=>cz w w' lo v1 v2 x r
theorem Dq (c:Ch) (h:Ha) (v1 v2:Value) (lo:Nat) (w:World) (h1:ag w lo v1 c.cells) (h2:ai w lo v2 c.words) (hs:(h.seen != 0 && h.seen != 1)=true) :
  Calls Tryz.prog 201 #[.agg (af c v1 v2),.agg (aa h)] w fun r w'=>cz w w' lo v1 v2 (iK c h) r:=by
 have e:iK c h=nothing:=by unfold iK;rw [if_pos hs]
 rw [e]
 have T:=Lib.hid (gH · lo v1 v2)
 generalize nothing=x at *
 have b1:=jF h1
 have b2:=jF h2
 obtain ⟨a1,q1,e1,_⟩:=h1.seg
 obtain ⟨a2,q2,e2,_⟩:=h2.seg
 simp at hs
 have hs0:(h.seen != 0)=true:=by simpa using hs.1
 have hs1:(h.seen != 1)=true:=by simpa using hs.2
 subst e1 e2
 clear h1 h2 e hs
 go_enter Tryz.func201,Tryz.ntmps201
 go_wp2_with fail;refine ax w zB fun bb=>?_;refine (T.out _).mono ?_;rintro _ w1 ⟨⟨y1,y2,rfl,aV,aX,dL,dI⟩,ah⟩;obtain ⟨aW,ay,zz⟩:=dZ bb ah (b:=w.heap.size);(try simp at ay);(try simp [go_sem] at zz);replace bX:=dF zz;clear zz ah bb
 obtain ⟨⟨aI,aJ⟩,dP,dQ⟩:=sO (w:=w) (w.heap.size+1+1+1+1) dL dI b1 b2;obtain ⟨ya,yp,rfl,_⟩:=aV.seg;obtain ⟨yb,yq,rfl,_⟩:=aX.seg
 go_wp2
 refine rE Tryz.results201 rfl (az x.1 (.slice ya x.1.cells.length yp) (.slice yb x.1.words.length yq) tY) rfl (aj x.2.1 tY) ⟨⟨_,_,rfl,?_,?_,dP,dQ⟩,dx zB⟩
 ·exact zP aV aV aI
 ·exact zP aX aX aJ
theorem dW.trans {w W:World} {v v1 v2:Value} (h:dW w v v1) (k:dW W v1 v2) (hs:w.heap.size≤W.heap.size):dW w v v2:=fun j hj=>by
 rcases k j hj with h1|h1
 ·exact h j h1
 ·exact .inr (Nat.le_trans hs h1)
theorem pX (c:Ch) (h:Ha) (st th el:Int) (a b:Value):af (eT c h st th el).1 a b=af c a b:=by
 unfold eT
 split
 ·rfl
 ·split <;> rfl
theorem Dr (c:Ch) (h:Ha) (v1 v2:Value) (lo:Nat) (w:World) (h1:ag w lo v1 c.cells) (h2:ai w lo v2 c.words) (hlo:lo≤w.heap.size) (hc0:0≤h.cell) (hc1:h.cell<c.cells.length) (hs:h.seen=0) (hco:h.come≤h.cell) (hfi:h.fin≤h.cell) :
  Calls Tryz.prog 201 #[.agg (af c v1 v2),.agg (aa h)] w fun r w'=>cz w w' lo v1 v2 (iK c h) r:=by
 have e:iK c h=done (eT c h 3 23 3).1 (eT c h 3 23 3).2:=by simp [iK,hs,hco,hfi]
 rw [e]
 have T:=Lib.hid fun W a b=>pW c h 3 23 3 v1 v2 lo W a b hc0 hc1
 have D:=Lib.hid fun v3 W=>bE (eT c h 3 23 3).1 (eT c h 3 23 3).2 v1 v3 lo W
 have I:=Lib.hid (pX c h 3 23 3)
 generalize done (eT c h 3 23 3).1 (eT c h 3 23 3).2=x at *
 generalize eT c h 3 23 3=y at *
 have b1:=jF h1
 have b2:=jF h2
 have m1:=mG b1
 have m2:=mG b2
 have m10:=m1 w.heap.size tO
 have m11:=m1 (w.heap.size+1) tO
 have m12:=m1 (w.heap.size+1+1) tO
 have m13:=m1 (w.heap.size+1+1+1) tO
 have m20:=m2 w.heap.size tO
 have m21:=m2 (w.heap.size+1) tO
 have m22:=m2 (w.heap.size+1+1) tO
 have m23:=m2 (w.heap.size+1+1+1) tO
 have o1:=h1
 have o2:=h2
 obtain ⟨a1,q1,e1,_⟩:=h1.seg
 obtain ⟨a2,q2,e2,_⟩:=h2.seg
 subst e1 e2
 clear h1 h2 e
 go_enter Tryz.func201,Tryz.ntmps201
 go_wp2_with fail
 refine (T.out _ (zO o1 o1) (zO o2 o2) (by simp;omega)).mono ?_
 rintro _ w1 ⟨v3,rfl,p1,p2,f3,hO⟩
 have ay:=hO.2.2.2.1;(try (simp at ay));have zz:=vE hO (b:=w.heap.size);(try simp [go_sem] at zz);replace bX:=dF zz;clear zz
 rw [← I.out]
 obtain ⟨a3,q3,rfl,_⟩:=p2.seg
 have vw:ik (Value.slice a1 c.cells.length q1).ownBlock (Value.slice a2 c.words.length q2).ownBlock w w1:=fu (dx zB) hO
 clear hO
 obtain ⟨k0,k1,k2,k3⟩:=kZ (a:=w.heap.size) (b:=w1.heap.size)
 go_wp2_with fail;refine ax w1 zB fun bk=>?_;refine (D.out _ _ (zO p1 p1) (zO p2 p2)).mono ?_;rintro _ w2 ⟨⟨y1,y2,rfl,aV,aX,dL,dI⟩,hbw2⟩;have bu:=hbw2.size;(try simp at bu);have zz:=zT hbw2 (b:=w.heap.size);(first|simp [go_sem,bX,k0,k1,k2,k3] at zz|simp [go_sem] at zz|skip);replace bX:=dF zz;clear zz;have eu:=bT bk hbw2;clear hbw2 bk
 have hO2:=fu vw (dx eu)
 replace dI:=f3.trans dI tS
 clear vw f3
 obtain ⟨⟨aI,aJ⟩,dP,dQ⟩:=sO (w:=w) (w.heap.size+1+1+1+1) dL dI b1 b2;obtain ⟨ya,yp,rfl,_⟩:=aV.seg;obtain ⟨yb,yq,rfl,_⟩:=aX.seg
 go_wp2
 refine rE Tryz.results201 rfl (az x.1 (.slice ya x.1.cells.length yp) (.slice yb x.1.words.length yq) tY) rfl (aj x.2.1 tY) ⟨⟨_,_,rfl,?_,?_,dP,dQ⟩,by exact zN⟩
 ·exact zP aV aV aI
 ·exact zP aX aX aJ
end
end Go.Proofs.YtffhjmepfojhnaaGreat
