/-
  The reference model's writing into a cell of a channel of one's own; the lists are the call's own.
-/
import Derived.Test.YtffhjmepfojhnaaGreatP01
import Derived.Test.YtffhjmepfojhnaaGreatP03
import Derived.Deep.AppendLies
set_option maxRecDepth 100000
set_option maxHeartbeats 4000000
set_option linter.unusedSimpArgs false
set_option linter.unusedVariables false
namespace Go.Proofs.YtffhjmepfojhnaaGreat
section
open Go.RowKit
theorem ah.open1 {w:World} {lo:Nat} {v:Value} {cs:List C3} (h:ah w lo v cs) {i:Nat} (hi:i<cs.length) :
  ∃ g cap,v=.slice (some ⟨g,0,none⟩) cs.length cap∧lo≤g∧g<w.heap.size∧(∀ j,j<3→w.cell? ⟨g,i*3+j,none⟩=some ((cs.getD i ⟨0,0,0⟩).val j))∧∀ o,w.frozen? ⟨g,o,none⟩=false:=by
 have h2:=h
 rcases h.2 with ⟨_,h0⟩|⟨g,cap,cur,rfl,hl,hg,_⟩
 ·omega
 ·refine ⟨g,cap,rfl,hl,(Array.getElem?_eq_some_iff.1 hg).1,fun j hj=>?_,fun o=>by simp [World.frozen?,hg]⟩
  have:=h2.cells (g:=g) rfl (i*3+j) _ (iO cs i j hi hj)
  have e2:(⟨g,0,none⟩:Addr).add (i*3+j)=⟨g,i*3+j,none⟩:=by generalize i*3+j=m;by_cases e:m=0 <;> simp [Addr.add,e]
  rw [e2] at this
  exact this
theorem ah.set {w:World} {lo g cap:Nat} {cs:List C3} (h:ah w lo (.slice (some ⟨g,0,none⟩) cs.length cap) cs) {i:Nat} (hi:i<cs.length) (x:C3) :
  ah (((w.setCell ⟨g,i*3,none⟩ (.int .i64 x.s)).setCell ⟨g,i*3+1,none⟩ (.int .i64 x.e)).setCell ⟨g,i*3+2,none⟩ (.int .i64 x.t)) lo (.slice (some ⟨g,0,none⟩) cs.length cap) (cs.set i x):=by
 have h1:=iV h (i*3) (by rw [il];omega) (.int .i64 x.s)
 have h2:=iV h1 (i*3+1) (by rw [List.length_set,il];omega) (.int .i64 x.e)
 have h3:=iV h2 (i*3+2) (by rw [List.length_set,List.length_set,il];omega) (.int .i64 x.t)
 unfold ah
 rw [oZ,List.length_set]
 exact h3
theorem ah.setS {w:World} {lo g cap:Nat} {cs:List C3} (h:ah w lo (.slice (some ⟨g,0,none⟩) cs.length cap) cs) {i:Nat} (hi:i<cs.length) (s:Int) :
  ah (w.setCell ⟨g,i*3,none⟩ (.int .i64 s)) lo (.slice (some ⟨g,0,none⟩) cs.length cap) (cs.set i { cs.getD i ⟨0,0,0⟩ with s:=s }):=by
 have h1:=iV h (i*3) (by rw [il];omega) (.int .i64 s)
 have g1:=iO cs i 1 hi tO
 have g2:=iO cs i 2 hi tO
 simp only [eT,C3.val] at g1 g2
 have e1:∀ (l:List Value) (j:Nat) (x:Value),l[j]?=some x→l.set j x=l:=fun l j x h=>by
  apply List.ext_getElem?
  intro n
  rw [List.getElem?_set]
  by_cases e:j=n
  ·subst e;simp only [if_true];rw [h];simp;exact (List.getElem?_eq_some_iff.1 h).1
  ·rw [if_neg e]
 unfold ah
 rw [oZ,List.length_set]
 simp only
 rw [e1 _ (i*3+1) _ (by rw [List.getElem?_set_ne tO];exact g1),e1 _ (i*3+2) _ (by rw [List.getElem?_set_ne tO];exact g2)]
 exact h1
theorem iq (c:Ch) (i:Nat) (st:Int):(bH c i st).cells=c.cells.set i { c.cells.getD i ⟨0,0,0⟩ with s:=st }:=by simp [bH,setAt,cellAt]
theorem yx (c:Ch) (i:Nat) (st:Int) (v1 v2:Value) (lo:Nat) (w:World) (h1:ah w lo v1 c.cells) (h2:ai w lo v2 c.words) (hi:i<c.cells.length) :
  Calls Tryz.prog 203 #[.agg #[.int .i64 c.cap,.int .i64 c.sent,.int .i64 c.got,.int .i64 c.fin,v1,v2],.int .i64 i,.int .i64 st] w fun r w'=>r=.returned (.agg #[.int .i64 c.cap,.int .i64 c.sent,.int .i64 c.got,.int .i64 c.fin,v1,v2])∧ah w' lo v1 (bH c i st).cells∧ai w' lo v2 c.words∧w.grownBy w' v1.ownBlock:=by
 have O2:=Lib.hid h2
 have hne:=h1.ne h2
 obtain ⟨b,q,rfl,_⟩:=h2.seg
 obtain ⟨g,cap,rfl,hlo,hlt,hcell,hfr⟩:=h1.open1 hi
 have O1:=Lib.hid h1
 have c0:=hcell 0 tO
 simp only [C3.val,Nat.add_zero] at c0
 have hi0:(0:Int)≤(i:Int):=by omega
 have hi1:(i:Int)<(c.cells.length:Int):=by omega
 have hgw:w.heap.size≠g:=by omega
 have q8:w.heap.size+1≠g:=by omega
 have Nh:g≠w.heap.size:=by omega
 have fw:g≠w.heap.size+1:=by omega
 generalize hcg:c.cells.getD i ⟨0,0,0⟩=x at c0
 clear h1 h2 hcell
 go_enter Tryz.func203,Tryz.ntmps203
 go_wp2
 have o1:=O1.out
 have o2:=O2.out
 have P1:=ah.setS o1 hi st
 rw [iq]
 refine bodyPost_ret (v:=.agg #[.int .i64 c.cap,.int .i64 c.sent,.int .i64 c.got,.int .i64 c.fin,.slice (some ⟨g,0,none⟩) c.cells.length cap,.slice b c.words.length q]) (by simp [results,Tryz.results203,go_sem, *]) rfl ⟨rfl,?_,?_,?_⟩
 ·exact zO P1 o1
 ·(repeat first|with_reducible exact o2|with_reducible refine xS ?_ _|with_reducible refine uZ ?_|((with_reducible first|refine bP ?_ ?_ _|refine fI ?_ ?_);rotate_left;focus first|(refine own_ne o2 ?_;(try dsimp only);omega)|(refine fU o2 ?_;(try dsimp only);omega)|exact fun h=>ah.ne o1 o2 _ rfl h))
 ·show Gr g w _
  (repeat (first|with_reducible assumption|with_reducible exact gR _ _|with_reducible refine gA ?_|with_reducible refine gD ?_|with_reducible refine gS ?_ (.inl rfl)|((with_reducible refine O3 ?_ (.inr ?_));rotate_left;(focus ((try dsimp only);(try simp);(try omega))))|((with_reducible refine gS ?_ (.inr ?_));rotate_left;(focus ((try dsimp only);(try simp);(try omega))))))
theorem qd (c:Ch) (i:Nat) (f t v:Int):(bf c i f t v).cells=c.cells.set i (nH (c.cells.getD i ⟨0,0,0⟩) f t v):=by simp [bf,setAt,cellAt]
theorem vB (c:Ch) (i:Nat) (f t v:Int):bn c i f t v=vW (c.cells.getD i ⟨0,0,0⟩) f t v:=by simp [bn,cellAt]
theorem Bu (c:Ch) (i:Nat) (f t v:Int) (v1 v2:Value) (lo:Nat) (w:World) (h1:ah w lo v1 c.cells) (h2:ai w lo v2 c.words) (hi:i<c.cells.length) :
  Calls Tryz.prog 214 #[.agg #[.int .i64 c.cap,.int .i64 c.sent,.int .i64 c.got,.int .i64 c.fin,v1,v2],.int .i64 i,.int .i64 f,.int .i64 t,.int .i64 v] w fun r w'=>r=.returned (.tuple #[.agg #[.int .i64 c.cap,.int .i64 c.sent,.int .i64 c.got,.int .i64 c.fin,v1,v2],.bool (bn c i f t v)])∧ah w' lo v1 (bf c i f t v).cells∧ai w' lo v2 c.words∧w.grownBy w' v1.ownBlock:=by
 have O2:=Lib.hid h2
 have hne:=h1.ne h2
 obtain ⟨b,q,rfl,_⟩:=h2.seg
 obtain ⟨g,cap,rfl,hlo,hlt,hcell,hfr⟩:=h1.open1 hi
 have O1:=Lib.hid h1
 have c0:=hcell 0 tO
 have c1:=hcell 1 tO
 have c2:=hcell 2 tO
 simp only [C3.val,Nat.add_zero] at c0 c1 c2
 have hi0:(0:Int)≤(i:Int):=by omega
 have hi1:(i:Int)<(c.cells.length:Int):=by omega
 have hgw:w.heap.size≠g:=by omega
 have q8:w.heap.size+1≠g:=by omega
 have Nh:g≠w.heap.size:=by omega
 have fw:g≠w.heap.size+1:=by omega
 rw [qd,vB]
 unfold vW nH
 generalize hcg:c.cells.getD i ⟨0,0,0⟩=x at c0 c1 c2
 clear h1 h2 hcell hcg
 go_enter Tryz.func214,Tryz.ntmps214
 go_wp2_with fail;refine au w zB fun bb=>?_;refine (yw _ _ _ f t v _).mono ?_;rintro _ w1 ⟨hr,ag⟩;have aV:Below w.heap.size w w1:=bT bb ag;have ak:=ag.size;(try simp at ak);have zz:=And.intro (fun o=>ag.cell (p:=⟨w.heap.size+1,o,none⟩) tS) <| And.intro (fun o=>ag.frozen (p:=⟨w.heap.size+1,o,none⟩) tS) <| And.intro (fun o=>ag.cell (p:=⟨w.heap.size,o,none⟩) tS) <| fun o=>ag.frozen (p:=⟨w.heap.size,o,none⟩) tS;(try simp [go_sem] at zz);(try clear dS dZ);(try clear di dC);obtain ⟨dS,dZ,di,dC⟩:=zz;(try clear dz);have dz:w.heap.size+1<w1.heap.size:=tO;(try clear bV);have bV:w.heap.size<w1.heap.size:=tO;have eD:Below w.heap.size w w1:=aV;clear ag bb
 unfold pU at hr
 subst hr
 have o1:=O1.out
 have o2:=O2.out
 have p1:=own_below o1 aV
 have p2:=own_below o2 aV
 have d1:=fun o=>(aV.cell (p:=⟨g,o,none⟩) hlt)
 have d2:=fun o=>(aV.frozen (p:=⟨g,o,none⟩) hlt)
 have mD:g<w1.heap.size:=by omega
 have OC:w1.heap.size≠g:=by omega
 have OD:g≠w1.heap.size:=by omega
 have P1:=ah.set p1 hi (nH x f t v)
 simp only [nH] at P1
 go_wp2
 refine bodyPost_ret (v:=.tuple #[.agg #[.int .i64 c.cap,.int .i64 c.sent,.int .i64 c.got,.int .i64 c.fin,.slice (some ⟨g,0,none⟩) c.cells.length cap,.slice b c.words.length q],.bool (jF x.s x.e x.t f t v)]) (by simp [results,Tryz.results214,go_sem, *]) rfl ⟨rfl,?_,?_,?_⟩
 ·exact zO P1 o1
 ·(repeat first|with_reducible exact p2|with_reducible refine xS ?_ _|with_reducible refine uZ ?_|((with_reducible first|refine bP ?_ ?_ _|refine fI ?_ ?_);rotate_left;focus first|(refine own_ne o2 ?_;(try dsimp only);omega)|(refine fU o2 ?_;(try dsimp only);omega)|exact fun h=>ah.ne o1 o2 _ rfl h))
 ·have hg1:Gr g w w1:=qz aV
  show Gr g w _
  (repeat (first|with_reducible assumption|with_reducible exact gR _ _|with_reducible refine gA ?_|with_reducible refine gD ?_|with_reducible refine gS ?_ (.inl rfl)|((with_reducible refine O3 ?_ (.inr ?_));rotate_left;(focus ((try dsimp only);(try simp);(try omega))))|((with_reducible refine gS ?_ (.inr ?_));rotate_left;(focus ((try dsimp only);(try simp);(try omega))))))
end
section
open Go.RowKit
attribute [local simp] aI
attribute [local go_sem ↓] aH aU aM bz aN bB aA aK ax aB
theorem iM (c:Ch) (i:Nat) (st:Int) (v1 v2:Value) (lo:Nat) (w:World) (h1:ah w lo v1 c.cells) (h2:ai w lo v2 c.words) (hi:i<c.cells.length) :
  Calls Tryz.prog 203 #[.agg (af c v1 v2),.int .i64 i,.int .i64 st] w fun r w'=>r=.returned (.agg (af c v1 v2))∧ah w' lo v1 (bH c i st).cells∧ai w' lo v2 c.words∧w.grownBy w' v1.ownBlock:=yx c i st v1 v2 lo w h1 h2 hi
theorem iw (c:Ch) (i:Nat) (f t v:Int) (v1 v2:Value) (lo:Nat) (w:World) (h1:ah w lo v1 c.cells) (h2:ai w lo v2 c.words) (hi:i<c.cells.length) :
  Calls Tryz.prog 214 #[.agg (af c v1 v2),.int .i64 i,.int .i64 f,.int .i64 t,.int .i64 v] w fun r w'=>r=.returned (.tuple #[.agg (af c v1 v2),.bool (bn c i f t v)])∧ah w' lo v1 (bf c i f t v).cells∧ai w' lo v2 c.words∧w.grownBy w' v1.ownBlock:=Bu c i f t v v1 v2 lo w h1 h2 hi
theorem lh {c:Ch} {h:Ha} {x:C3} (hx:cellAt c h.cell=x) (n:Int) (hn:x.s=n) :
  je c h=if n == 0 then ({ bL h x with pos:=4 },true) else if n == 1 then ({ bL h x with pos:=6 },true) else if n == 4 then ({ bL h x with pos:=7 },true)
   else if n == 8 then (anew (bL h x),true) else if n == 10 then (anew (bL h x),true) else (bL h x,false):=by
 subst hn;subst hx;rfl
theorem qZ (c:Ch) (h:Ha) (a b:Option Addr) (p q:Nat) (w:World) (h1:eY w w.heap.size a c.cells) (hc0:0≤h.cell) (hc1:h.cell<c.cells.length) :
  Calls Tryz.prog 200 #[.agg (af c (.slice a c.cells.length p) (.slice b c.words.length q)),.agg (aa h)] w fun r w'=>r=.returned (.tuple #[.agg (aa (je c h).1),.bool (je c h).2])∧Below w.heap.size w w':=by
 obtain ⟨i,hci⟩:∃ i:Nat,h.cell=(i:Int):=⟨h.cell.toNat,by omega⟩
 have hi:i<c.cells.length:=by omega
 obtain ⟨bb,bo,rfl,hb,hcell⟩:∃ b' o,a=some ⟨b',o,none⟩∧b'<w.heap.size∧Hid (∀ j,j<3→w.cell? ⟨b',o+i*3+j,none⟩=some ((c.cells.getD i ⟨0,0,0⟩).val j)):=by
  rcases h1 with h0|⟨b',o',e,h1,h2⟩
  ·omega
  ·exact ⟨b',o',e,h1,fun j hj=>by simpa [eT] using h2 i j hi hj⟩
 clear h1
 have c0:=hcell.out 0 tO
 have c2:=hcell.out 2 tO
 have hx:Hid (cellAt c h.cell=c.cells.getD i ⟨0,0,0⟩):=by simp [cellAt,Hid,hci]
 clear hcell
 generalize c.cells.getD i ⟨0,0,0⟩=x at *
 obtain ⟨s,e,t⟩:=x
 simp only [C3.val,Nat.add_zero] at c0 c2
 have hi0:(0:Int)≤(i:Int):=by omega
 have hi1:(i:Int)<(c.cells.length:Int):=by omega
 have hb1:bb<w.heap.size+1:=by omega
 have hb2:bb<w.heap.size+1+1:=by omega
 have hne:bb≠w.heap.size:=by omega
 have hne1:bb≠w.heap.size+1:=by omega
 have hne2:bb≠w.heap.size+1+1:=by omega
 by_cases hn:s=0∨s=1∨s=4∨s=8∨s=10
 ·rcases hn with rfl|rfl|rfl|rfl|rfl
  ·rw [show je c h=({ bL h ⟨0,e,t⟩ with pos:=4 },true) from lh hx.out 0 rfl]
   go_enter Tryz.func200,Tryz.ntmps200
   go_wp2
   refine bodyPost_ret (iF Tryz.results200 rfl (aj { bL h ⟨0,e,t⟩ with pos:=4 } (by simp [go_sem, *] <;> first|rfl|simp [bL,anew,hci]))) rfl ⟨rfl,by exact zB⟩
  ·rw [show je c h=({ bL h ⟨1,e,t⟩ with pos:=6 },true) from lh hx.out 1 rfl]
   go_enter Tryz.func200,Tryz.ntmps200
   go_wp2
   refine bodyPost_ret (iF Tryz.results200 rfl (aj { bL h ⟨1,e,t⟩ with pos:=6 } (by simp [go_sem, *] <;> first|rfl|simp [bL,anew,hci]))) rfl ⟨rfl,by exact zB⟩
  ·rw [show je c h=({ bL h ⟨4,e,t⟩ with pos:=7 },true) from lh hx.out 4 rfl]
   go_enter Tryz.func200,Tryz.ntmps200
   go_wp2
   refine bodyPost_ret (iF Tryz.results200 rfl (aj { bL h ⟨4,e,t⟩ with pos:=7 } (by simp [go_sem, *] <;> first|rfl|simp [bL,anew,hci]))) rfl ⟨rfl,by exact zB⟩
  ·rw [show je c h=(anew (bL h ⟨8,e,t⟩),true) from lh hx.out 8 rfl]
   go_enter Tryz.func200,Tryz.ntmps200
   go_wp2_with fail;refine au w zB fun bb=>?_;refine (jf _ _).mono ?_;rintro _ w1 ⟨rfl,ag⟩;obtain ⟨aV,ak,zz⟩:=DX bb ag (b:=w.heap.size);(try simp at ak);(try simp [go_sem] at zz);replace bX:=DW zz;clear zz ag bb
   go_wp2
   refine bodyPost_ret (iF Tryz.results200 rfl (aj (anew (bL h ⟨8,e,t⟩)) (by simp [go_sem, *] <;> first|rfl|simp [bL,anew,hci]))) rfl ⟨rfl,by exact zB⟩
  ·rw [show je c h=(anew (bL h ⟨10,e,t⟩),true) from lh hx.out 10 rfl]
   go_enter Tryz.func200,Tryz.ntmps200
   go_wp2_with fail;refine au w zB fun bb=>?_;refine (jf _ _).mono ?_;rintro _ w1 ⟨rfl,ag⟩;obtain ⟨aV,ak,zz⟩:=DX bb ag (b:=w.heap.size);(try simp at ak);(try simp [go_sem] at zz);replace bX:=DW zz;clear zz ag bb
   go_wp2
   refine bodyPost_ret (iF Tryz.results200 rfl (aj (anew (bL h ⟨10,e,t⟩)) (by simp [go_sem, *] <;> first|rfl|simp [bL,anew,hci]))) rfl ⟨rfl,by exact zB⟩
 ·have n0:(s == 0)=false:=by simp;omega
  have n1:(s == 1)=false:=by simp;omega
  have n4:(s == 4)=false:=by simp;omega
  have n8:(s == 8)=false:=by simp;omega
  have n10:(s == 10)=false:=by simp;omega
  rw [show je c h=(bL h ⟨s,e,t⟩,false) from by rw [lh hx.out s rfl,n0,n1,n4,n8,n10];rfl]
  clear hn
  go_enter Tryz.func200,Tryz.ntmps200
  go_wp2
  refine bodyPost_ret (iF Tryz.results200 rfl (aj (bL h ⟨s,e,t⟩) (by simp [go_sem, *] <;> first|rfl|simp [bL,anew,hci]))) rfl ⟨rfl,by exact zB⟩
end
section
open Go.RowKit
attribute [local simp] aI
attribute [local go_sem ↓] aH aU aM bz aN bB aA aK ax aB
def DZ (w w':World) (lo:Nat) (v1 v2:Value) (c:Ch) (x:Ch × Ha) (r:Ending):Prop :=
 ∃ v3,r=.returned (.tuple #[.agg (af c v1 v3),.agg (aa x.2)])∧ah w' lo v1 x.1.cells∧ai w' lo v3 x.1.words∧dY w v2 v3∧gV v1.ownBlock v2.ownBlock w w'
theorem yz (c:Ch) (h:Ha) (st th el:Int) (v1 v2:Value) (lo:Nat) (w:World) (h1:ah w lo v1 c.cells) (h2:ai w lo v2 c.words) (hf:80≤c.words.length) :
  Calls Tryz.prog 213 #[.agg (af c v1 v2),.agg (aa h),.int .i64 st,.int .i64 th,.int .i64 el] w fun r w'=>DZ w w' lo v1 v2 c (eP c h st th el) r:=by
 have e:eP c h st th el=(c,aS 4 0):=by simp [eP,hf]
 rw [e]
 obtain ⟨a1,q1,rfl,_⟩:=h1.seg
 obtain ⟨a2,q2,rfl,_⟩:=h2.seg
 have O1:=Lib.hid h1
 have O2:=Lib.hid h2
 have hfi:(80:Int)≤(c.words.length:Int):=by omega
 clear h1 h2 e
 go_enter Tryz.func213,Tryz.ntmps213
 go_wp2_with fail
 go_region_with (go_at_call 130;refine au w zB fun bb=>?_;refine (fB _ _ _).mono ?_;rintro _ w1 ⟨rfl,ag⟩;obtain ⟨aV,ak,zz⟩:=dV bb ag (b:=w.heap.size);(try simp at ak);(try simp [go_sem] at zz);replace bX:=dx zz;clear zz;have eD:=aV;clear ag bb)
 all_goals (go_wp2_with fail)
 all_goals (have o1:=O1.out;have o2:=O2.out;have p1:=own_below o1 aV;have p2:=own_below o2 aV)
 all_goals (refine bodyPost_ret (nW Tryz.results213 rfl (az c (.slice a1 c.cells.length q1) (.slice a2 c.words.length q2) tY) rfl (aj (aS 4 0) tY)) rfl ⟨_,rfl,?_,?_,av _ _,dA zB⟩)
 all_goals first|(repeat first|with_reducible exact p1|with_reducible refine xS ?_ _|with_reducible refine uZ ?_|((with_reducible first|refine bP ?_ ?_ _|refine fI ?_ ?_);rotate_left;focus first|(refine own_ne o1 ?_;(try dsimp only);omega)|(refine fU o1 ?_;(try dsimp only);omega)))|skip
 all_goals first|(repeat first|with_reducible exact p2|with_reducible refine xS ?_ _|with_reducible refine uZ ?_|((with_reducible first|refine bP ?_ ?_ _|refine fI ?_ ?_);rotate_left;focus first|(refine own_ne o2 ?_;(try dsimp only);omega)|(refine fU o2 ?_;(try dsimp only);omega)))|skip
theorem EA (c:Ch) (h:Ha) (st th el:Int) (v1 v2:Value) (lo:Nat) (w:World) (h1:ah w lo v1 c.cells) (h2:ai w lo v2 c.words) (hf:c.words.length<80) (hc0:0≤h.cell) (hc1:h.cell<c.cells.length) (ht:bn c h.cell h.seen st (c.words.length+1)=false) :
  Calls Tryz.prog 213 #[.agg (af c v1 v2),.agg (aa h),.int .i64 st,.int .i64 th,.int .i64 el] w fun r w'=>DZ w w' lo v1 v2 c (eP c h st th el) r:=by
 have hn:¬ 80≤c.words.length:=by omega
 have e:eP c h st th el=(bf c h.cell h.seen st (c.words.length+1),{ h with pos:=el }):=by simp [eP,hn,ht]
 rw [e]
 obtain ⟨i,hci⟩:∃ i:Nat,h.cell=(i:Int):=⟨h.cell.toNat,by omega⟩
 have hi:i<c.cells.length:=by omega
 have O1:=Lib.hid h1
 have O2:=Lib.hid h2
 have T:=Lib.hid (iw c i h.seen st ((c.words.length:Int)+1) v1 v2 lo)
 rw [hci] at ht ⊢
 have b1:=jc h1
 obtain ⟨a1,q1,rfl,_⟩:=h1.seg
 obtain ⟨a2,q2,rfl,_⟩:=h2.seg
 have hfi:¬ (80:Int)≤(c.words.length:Int):=by omega
 have nw:some w.heap.size≠(Value.slice a1 c.cells.length q1).ownBlock:=fun e=>by have:=b1 _ e.symm;omega
 have JU:some (w.heap.size+1)≠(Value.slice a1 c.cells.length q1).ownBlock:=fun e=>by have:=b1 _ e.symm;omega
 have JV:some (w.heap.size+1+1)≠(Value.slice a1 c.cells.length q1).ownBlock:=fun e=>by have:=b1 _ e.symm;omega
 have Lr:some (w.heap.size+1+1+1)≠(Value.slice a1 c.cells.length q1).ownBlock:=fun e=>by have:=b1 _ e.symm;omega
 clear h1 h2 e hf hn
 go_enter Tryz.func213,Tryz.ntmps213
 have o1:=O1.out
 have o2:=O2.out
 go_wp2_with fail;refine (T.out _ (zO o1 o1) (zO o2 o2) hi).mono ?_;rintro _ w1 ⟨rfl,p1,p2,hgw1⟩;have ak:=hgw1.size;(try (simp at ak));have zz:=MF hgw1 (b:=w.heap.size);(try simp [go_sem] at zz);replace bX:=dx zz;clear zz;have jJ:=Gg (w:=w) zB hgw1;clear hgw1
 rw [ht]
 go_wp2
 go_region
 go_wp2
 refine bodyPost_ret (nW Tryz.results213 rfl (az c (.slice a1 c.cells.length q1) (.slice a2 c.words.length q2) tY) rfl (aj { h with pos:=el,cell:=(i:Int) } tZ)) rfl ⟨_,rfl,?_,?_,av _ _,kS (by (repeat (first|with_reducible assumption|with_reducible refine O4 ?_|with_reducible refine O5 ?_|((with_reducible refine O7 ?_ ?_);rotate_left;(focus ((try dsimp only);(try simp);(try omega))))|((with_reducible refine O6 ?_ ?_);rotate_left;(focus ((try dsimp only);(try simp);(try omega)))))))⟩
 ·exact zO p1 o1
 ·show ai _ lo _ c.words
  exact zO p2 o2
theorem JW (w:World) (x:Value) (t:TypeId):∀ j u,[x][j]?=some u→(w.alloc (.cells #[x] t)).cell? ((⟨w.heap.size,0,none⟩:Addr).add j)=some u:=by
 intro j u h
 have hj:j<1:=(List.getElem?_eq_some_iff.1 h).1
 have:j=0:=by omega
 subst this
 simp [Addr.add] at h ⊢;exact h
theorem Bv (c:Ch) (h:Ha) (st th el:Int) (v1 v2:Value) (lo:Nat) (w:World) (h1:ah w lo v1 c.cells) (h2:ai w lo v2 c.words) (hf:c.words.length<80) (hc0:0≤h.cell) (hc1:h.cell<c.cells.length) (ht:bn c h.cell h.seen st (c.words.length+1)=true) (hlo:lo≤w.heap.size) :
  Calls Tryz.prog 213 #[.agg (af c v1 v2),.agg (aa h),.int .i64 st,.int .i64 th,.int .i64 el] w fun r w'=>DZ w w' lo v1 v2 c (eP c h st th el) r:=by
 have hn:¬ 80≤c.words.length:=by omega
 have e:eP c h st th el=({ bf c h.cell h.seen st (c.words.length+1) with words:=c.words ++ [0] },{ h with mine:=c.words.length+1,pos:=th }):=by simp [eP,hn,ht]
 rw [e]
 obtain ⟨i,hci⟩:∃ i:Nat,h.cell=(i:Int):=⟨h.cell.toNat,by omega⟩
 have hi:i<c.cells.length:=by omega
 have O1:=Lib.hid h1
 have O2:=Lib.hid h2
 have T:=Lib.hid (iw c i h.seen st ((c.words.length:Int)+1) v1 v2 lo)
 rw [hci] at ht ⊢
 have b2:=jc h2
 have b1:=jc h1
 obtain ⟨a1,q1,rfl,_⟩:=h1.seg
 obtain ⟨a2,q2,rfl,_⟩:=h2.seg
 have hfi:¬ (80:Int)≤(c.words.length:Int):=by omega
 have nw:some w.heap.size≠(Value.slice a1 c.cells.length q1).ownBlock:=fun e=>by have:=b1 _ e.symm;omega
 have JU:some (w.heap.size+1)≠(Value.slice a1 c.cells.length q1).ownBlock:=fun e=>by have:=b1 _ e.symm;omega
 have JV:some (w.heap.size+1+1)≠(Value.slice a1 c.cells.length q1).ownBlock:=fun e=>by have:=b1 _ e.symm;omega
 have Lr:some (w.heap.size+1+1+1)≠(Value.slice a1 c.cells.length q1).ownBlock:=fun e=>by have:=b1 _ e.symm;omega
 have mw:∀ j,w.heap.size≤j→some j≠(Value.slice a2 c.words.length q2).ownBlock:=fun j hj e=>by have:=b2 _ e.symm;omega
 have PS:=mw w.heap.size tO
 have PT:=mw (w.heap.size+1) tO
 have PU:=mw (w.heap.size+1+1) tO
 have QI:=mw (w.heap.size+1+1+1) tO
 clear h1 h2 e hf hn
 go_enter Tryz.func213,Tryz.ntmps213
 have o1:=O1.out
 have o2:=O2.out
 go_wp2_with fail;refine (T.out _ (zO o1 o1) (zO o2 o2) hi).mono ?_;rintro _ w1 ⟨rfl,p1,p2,hgw1⟩;have ak:=hgw1.size;(try (simp at ak));have zz:=And.intro (dN hgw1 (b:=w.heap.size+1+1+1) tS (by assumption)) <| And.intro (dN hgw1 (b:=w.heap.size+1+1) tS (by assumption)) <| And.intro (dN hgw1 (b:=w.heap.size+1) tS (by assumption)) <| dN hgw1 (b:=w.heap.size) tS (by assumption);(try simp [go_sem] at zz);(try clear aJ cu cz bq);(try clear bg dJ dK bW);(try clear dE dS dZ dz);(try clear bG di dC bV);obtain ⟨aJ,bg,dE,bG⟩:=zz;obtain ⟨cu,cz,bq⟩:=bO aJ;obtain ⟨dJ,dK,bW⟩:=bO bg;obtain ⟨dS,dZ,dz⟩:=bO dE;obtain ⟨di,dC,bV⟩:=bO bG;have jJ:=Gg (w:=w) zB hgw1;clear hgw1
 rw [ht]
 obtain ⟨i0,hi0,hz0,hz1,hz2⟩:=info_parts jI
 go_wp2_with (at_builtin;refine wpList_append_lies _ rfl _ _ 29 rfl lo 2 i0 _ 1 8 Tryz.underlying29 hi0 hz0 hz1 hz2 rfl (by decide) (.slice a2 c.words.length q2) c.words.length (ints c.words) rfl (World.ownsRow.alloc (World.ownsRow.alloc p2 _) _) ⟨w1.heap.size+1,0,none⟩ 1 1 [.int .i64 0] rfl rfl ?c2 (by simp [Value.oneCell']) tO ?c3 ?c4 ?c5 (w1.heap.size+1+1) (by simp) ?_)
 case c2=>have:=JW (w1.alloc (.cells (af c (.slice a1 c.cells.length q1) (.slice a2 c.words.length q2)) 31)) (.int .i64 0) 2;simpa using this
 case c3=>unfold maxLen;omega
 case c4=>omega
 case c5=>simp;omega
 intro Ji q4 w4 o4 g4 hat Ni
 have QJ:=mw w1.heap.size tO
 have Bt:w1.heap.size<w1.heap.size+1:=by omega
 have gu:=g4.size;(try (simp at gu));have zz:=And.intro (dN g4 (b:=w1.heap.size) tS (by assumption)) <| And.intro (dN g4 (b:=w.heap.size+1+1+1) tS (by assumption)) <| And.intro (dN g4 (b:=w.heap.size+1+1) tS (by assumption)) <| And.intro (dN g4 (b:=w.heap.size+1) tS (by assumption)) <| dN g4 (b:=w.heap.size) tS (by assumption);(first|simp [go_sem,aJ,bg,dE,bG,bV,Bt,dz,bW,bq] at zz|simp [go_sem] at zz|skip);(try clear Nj GV GX Bt);(try clear aJ cu cz bq);(try clear bg dJ dK bW);(try clear dE dS dZ dz);(try clear bG di dC bV);obtain ⟨Nj,aJ,bg,dE,bG⟩:=zz;obtain ⟨GV,GX,Bt⟩:=bO Nj;obtain ⟨cu,cz,bq⟩:=bO aJ;obtain ⟨dJ,dK,bW⟩:=bO bg;obtain ⟨dS,dZ,dz⟩:=bO dE;obtain ⟨di,dC,bV⟩:=bO bG
 have r1:ah w4 lo (.slice a1 c.cells.length q1) (bf c (i:Int) h.seen st (c.words.length+1)).cells:=((World.ownsRow.alloc (World.ownsRow.alloc p1 _) _)).kept g4 (wh p1 p2)
 have r2:ai w4 lo (.slice (some ⟨Ji,0,none⟩) (c.words.length+1) q4) (c.words ++ [0]):=ai.snoc o4
 have hfresh:dY w (.slice a2 c.words.length q2) (.slice (some ⟨Ji,0,none⟩) (c.words.length+1) q4):=fun j hj=>by
  simp [Value.ownBlock] at hj
  subst hj
  rcases hat with hat|hat
  ·exact .inl hat
  ·exact .inr tO
 have hgb:∀ j,w.heap.size≤j→j<w1.heap.size+1→Ji≠j:=fun j h1 h2 e=>by
  rcases hat with hat|hat
  ·have:=b2 _ hat;omega
  ·omega
 clear o4
 have PV:∀ j,w.heap.size≤j→j<w1.heap.size+1→(Value.slice (some ⟨Ji,0,none⟩) (c.words.length+1) q4).ownBlock≠some j:=fun j h1 h2 e=>hgb j h1 h2 (by simpa [Value.ownBlock] using e)
 have hO:gV (Value.slice a1 c.cells.length q1).ownBlock (Value.slice a2 c.words.length q2).ownBlock w w4:=fA (kS jJ) (fA (dA zB) (Nb g4))
 clear g4
 obtain ⟨k0,k1,k2,k3⟩:=jW (a:=w.heap.size) (b:=w1.heap.size)
 go_wp2
 go_region
 go_wp2
 refine bodyPost_ret (nW Tryz.results213 rfl (az c (.slice a1 c.cells.length q1) (.slice (some ⟨Ji,0,none⟩) (c.words.length+1) q4) tY) rfl (aj { h with cell:=(i:Int),mine:=c.words.length+1,pos:=th } tZ)) rfl ⟨_,rfl,?_,?_,hfresh,?_⟩
 ·exact zO r1 o1
 ·exact zP r2 r2 PV
 ·exact zN
theorem nX (c:Ch) (h:Ha) (st th el:Int) (v1 v2:Value) (lo:Nat) (w:World) (h1:ah w lo v1 c.cells) (h2:ai w lo v2 c.words) (hc0:0≤h.cell) (hc1:h.cell<c.cells.length) (hlo:lo≤w.heap.size) :
  Calls Tryz.prog 213 #[.agg (af c v1 v2),.agg (aa h),.int .i64 st,.int .i64 th,.int .i64 el] w fun r w'=>DZ w w' lo v1 v2 c (eP c h st th el) r:=by
 by_cases hf:80≤c.words.length
 ·exact yz c h st th el v1 v2 lo w h1 h2 hf
 ·cases ht:bn c h.cell h.seen st (c.words.length+1) with
  | true=>exact Bv c h st th el v1 v2 lo w h1 h2 tO hc0 hc1 ht hlo
  | false=>exact EA c h st th el v1 v2 lo w h1 h2 tO hc0 hc1 ht
end
section
open Go.RowKit
attribute [local simp] aI
attribute [local go_sem ↓] aH aU aM bz aN bB aA aK ax aB
def cK (w w':World) (lo:Nat) (v1 v2:Value) (x:St) (r:Ending):Prop:=qY w w' lo v1 v2 x r∧gV v1.ownBlock v2.ownBlock w w'
abbrev bY (F:FuncId) (c:Ch) (h:Ha) (v1 v2:Value) (lo:Nat) (w:World) (x:St):Prop:=Calls Tryz.prog F #[.agg (af c v1 v2),.agg (aa h)] w fun r w'=>cK w w' lo v1 v2 x r
theorem Bz (c:Ch) (h:Ha) (v1 v2:Value) (lo:Nat) (w:World) (h1:ah w lo v1 c.cells) (h2:ai w lo v2 c.words) (hs:(h.seen != 0 && h.seen != 1)=true) :
  Calls Tryz.prog 201 #[.agg (af c v1 v2),.agg (aa h)] w fun r w'=>cK w w' lo v1 v2 (iE c h) r:=by
 have e:iE c h=nothing:=by unfold iE;rw [if_pos hs]
 rw [e]
 have T:=Lib.hid (fQ · lo v1 v2)
 generalize nothing=x at *
 have b1:=jc h1
 have b2:=jc h2
 obtain ⟨a1,q1,e1,_⟩:=h1.seg
 obtain ⟨a2,q2,e2,_⟩:=h2.seg
 simp at hs
 have hs0:(h.seen != 0)=true:=by simpa using hs.1
 have hs1:(h.seen != 1)=true:=by simpa using hs.2
 subst e1 e2
 clear h1 h2 e hs
 go_enter Tryz.func201,Tryz.ntmps201
 go_wp2_with fail;refine au w zB fun bb=>?_;refine (T.out _).mono ?_;rintro _ w1 ⟨⟨y1,y2,rfl,aO,aQ,dH,dF⟩,ag⟩;obtain ⟨aV,ak,zz⟩:=dV bb ag (b:=w.heap.size);(try simp at ak);(try simp [go_sem] at zz);replace bX:=dx zz;clear zz ag bb
 obtain ⟨⟨aD,aF⟩,dQ,dR⟩:=sO (w:=w) (w.heap.size+1+1+1+1) dH dF b1 b2;obtain ⟨ya,yp,rfl,_⟩:=aO.seg;obtain ⟨yb,yq,rfl,_⟩:=aQ.seg
 go_wp2
 refine rE Tryz.results201 rfl (az x.1 (.slice ya x.1.cells.length yp) (.slice yb x.1.words.length yq) tY) rfl (aj x.2.1 tY) ⟨⟨_,_,rfl,?_,?_,dQ,dR⟩,dA zB⟩
 ·exact zP aO aO aD
 ·exact zP aQ aQ aF
theorem dY.trans {w W:World} {v v1 v2:Value} (h:dY w v v1) (k:dY W v1 v2) (hs:w.heap.size≤W.heap.size):dY w v v2:=fun j hj=>by
 rcases k j hj with h1|h1
 ·exact h j h1
 ·exact .inr (Nat.le_trans hs h1)
theorem nY (c:Ch) (h:Ha) (st th el:Int) (a b:Value):af (eP c h st th el).1 a b=af c a b:=by
 unfold eP
 split
 ·rfl
 ·split <;> rfl
theorem BA (c:Ch) (h:Ha) (v1 v2:Value) (lo:Nat) (w:World) (h1:ah w lo v1 c.cells) (h2:ai w lo v2 c.words) (hlo:lo≤w.heap.size) (hc0:0≤h.cell) (hc1:h.cell<c.cells.length) (hs:h.seen=0) (hco:h.come≤h.cell) (hfi:h.fin≤h.cell) :
  Calls Tryz.prog 201 #[.agg (af c v1 v2),.agg (aa h)] w fun r w'=>cK w w' lo v1 v2 (iE c h) r:=by
 have e:iE c h=done (eP c h 3 23 3).1 (eP c h 3 23 3).2:=by simp [iE,hs,hco,hfi]
 rw [e]
 have T:=Lib.hid fun W a b=>nX c h 3 23 3 v1 v2 lo W a b hc0 hc1
 have D:=Lib.hid fun v3 W=>aW (eP c h 3 23 3).1 (eP c h 3 23 3).2 v1 v3 lo W
 have I:=Lib.hid (nY c h 3 23 3)
 generalize done (eP c h 3 23 3).1 (eP c h 3 23 3).2=x at *
 generalize eP c h 3 23 3=y at *
 have b1:=jc h1
 have b2:=jc h2
 have m1:=lD b1
 have m2:=lD b2
 have m10:=m1 w.heap.size tO
 have m11:=m1 (w.heap.size+1) tO
 have m12:=m1 (w.heap.size+1+1) tO
 have m13:=m1 (w.heap.size+1+1+1) tO
 have m20:=m2 w.heap.size tO
 have m21:=m2 (w.heap.size+1) tO
 have m22:=m2 (w.heap.size+1+1) tO
 have m23:=m2 (w.heap.size+1+1+1) tO
 have o1:=h1
 have o2:=h2
 obtain ⟨a1,q1,e1,_⟩:=h1.seg
 obtain ⟨a2,q2,e2,_⟩:=h2.seg
 subst e1 e2
 clear h1 h2 e
 go_enter Tryz.func201,Tryz.ntmps201
 go_wp2_with fail
 refine (T.out _ (zO o1 o1) (zO o2 o2) (by simp;omega)).mono ?_
 rintro _ w1 ⟨v3,rfl,p1,p2,f3,hO⟩
 have ak:=hO.2.2.2.1;(try (simp at ak));have zz:=Bl hO (b:=w.heap.size);(try simp [go_sem] at zz);replace bX:=dx zz;clear zz
 rw [← I.out]
 obtain ⟨a3,q3,rfl,_⟩:=p2.seg
 have tL:gV (Value.slice a1 c.cells.length q1).ownBlock (Value.slice a2 c.words.length q2).ownBlock w w1:=fA (dA zB) hO
 clear hO
 obtain ⟨k0,k1,k2,k3⟩:=jW (a:=w.heap.size) (b:=w1.heap.size)
 go_wp2_with fail;refine au w1 zB fun bk=>?_;refine (D.out _ _ (zO p1 p1) (zO p2 p2)).mono ?_;rintro _ w2 ⟨⟨y1,y2,rfl,aO,aQ,dH,dF⟩,hbw2⟩;have aR:=hbw2.size;(try simp at aR);have zz:=AZ hbw2 (b:=w.heap.size);(first|simp [go_sem,bX,k0,k1,k2,k3] at zz|simp [go_sem] at zz|skip);replace bX:=dx zz;clear zz;have dW:=bT bk hbw2;clear hbw2 bk
 have hO2:=fA tL (dA dW)
 replace dF:=f3.trans dF tS
 clear tL f3
 obtain ⟨⟨aD,aF⟩,dQ,dR⟩:=sO (w:=w) (w.heap.size+1+1+1+1) dH dF b1 b2;obtain ⟨ya,yp,rfl,_⟩:=aO.seg;obtain ⟨yb,yq,rfl,_⟩:=aQ.seg
 go_wp2
 refine rE Tryz.results201 rfl (az x.1 (.slice ya x.1.cells.length yp) (.slice yb x.1.words.length yq) tY) rfl (aj x.2.1 tY) ⟨⟨_,_,rfl,?_,?_,dQ,dR⟩,by exact zN⟩
 ·exact zP aO aO aD
 ·exact zP aQ aQ aF
end
section
open Go.RowKit
attribute [local simp] aI
attribute [local go_sem ↓] aH aU aM bz aN bB aA aK ax aB
theorem y7 (c:Ch) (h:Ha) (v1 v2:Value) (lo:Nat) (w:World) (h1:ah w lo v1 c.cells) (h2:ai w lo v2 c.words) (hc0:0≤h.cell) (hc1:h.cell<c.cells.length) (hso:h.seen=1) (ht:bn c h.cell h.seen 2 0=true) :
    bY 201 c h v1 v2 lo w (iE c h):=by
  obtain ⟨i,hci⟩:∃ i:Nat,h.cell=(i:Int):=⟨h.cell.toNat,by omega⟩
  have hs:=hso
  rw [hci,hs] at ht
  have e:iE c h=done (bf c i 1 2 0) (aS 1 0):=by simp [iE,hs,hci,ht]
  rw [e]
  have hi:i<c.cells.length:=by omega
  have T:=Lib.hid fun W a b=>iw c i 1 2 0 v1 v2 lo W a b hi
  have D:=Lib.hid fun W=>aW (bf c i 1 2 0) (aS 1 0) v1 v2 lo W
  generalize done (bf c i 1 2 0) (aS 1 0)=x at *
  rw [ht] at T
  have b1:=jc h1
  have b2:=jc h2
  have m1:=lD b1
  have m10:=m1 w.heap.size tO
  have m11:=m1 (w.heap.size+1) tO
  have m12:=m1 (w.heap.size+1+1) tO
  have m13:=m1 (w.heap.size+1+1+1) tO
  have o1:=h1
  have o2:=h2
  obtain ⟨a1,q1,e1,_⟩:=h1.seg
  obtain ⟨a2,q2,e2,_⟩:=h2.seg
  subst e1 e2
  clear h1 h2 e hso
  go_enter Tryz.func201,Tryz.ntmps201
  go_wp2_with fail;refine (T.out _ (zO o1 o1) (zO o2 o2)).mono ?_;rintro _ w1 ⟨rfl,p1,p2,hgw1⟩;have ak:=hgw1.size;(try (simp at ak));have zz:=MF hgw1 (b:=w.heap.size);(try simp [go_sem] at zz);replace bX:=dx zz;clear zz;have jJ:=Gg (w:=w) zB hgw1;clear hgw1
  have tL:gV (Value.slice a1 c.cells.length q1).ownBlock (Value.slice a2 c.words.length q2).ownBlock w w1:=kS jJ
  obtain ⟨k0,k1,k2,k3⟩:=jW (a:=w.heap.size) (b:=w1.heap.size)
  go_wp2_with fail
  go_region_with (first|((go_at_call 130;refine au w1 zB fun bk=>?_;refine (fB _ _ _).mono ?_;rintro _ w2 ⟨rfl,hbw2⟩;have aR:=hbw2.size;(try simp at aR);have zz:=And.intro (hQ hbw2 (b:=w1.heap.size)) <| And.intro (hQ hbw2 (b:=w.heap.size+1+1+1)) <| And.intro (hQ hbw2 (b:=w.heap.size+1+1)) <| And.intro (hQ hbw2 (b:=w.heap.size+1)) <| hQ hbw2 (b:=w.heap.size);(first|simp [go_sem,bX,k0,k1,k2,k3] at zz|simp [go_sem] at zz|skip);replace bX:=jb zz;clear zz;have dW:=bT bk hbw2;clear hbw2 bk);have r1:ah w2 lo (.slice a1 c.cells.length q1) (bf c i 1 2 0).cells:=own_below p1 dW;have r2:ai w2 lo (.slice a2 c.words.length q2) (bf c i 1 2 0).words:=own_below p2 dW)|((go_at_call 198;refine au w2 zB fun bk=>?_;refine (D.out _ (zO r1 r1) (zO r2 r2)).mono ?_;rintro _ w3 ⟨⟨y1,y2,rfl,aO,aQ,dH,dF⟩,aC⟩;have bM:=aC.size;(try simp at bM);have zz:=AZ aC (b:=w.heap.size);(first|simp [go_sem,bX,k0,k1,k2,k3] at zz|simp [go_sem] at zz|skip);replace bX:=dx zz;clear zz;have tN:=bT bk aC;clear aC bk);have hO3:=fA tL (fA (dA dW) (dA tN));obtain ⟨⟨aD,aF⟩,dQ,dR⟩:=sO (w:=w) (w.heap.size+1+1+1+1) dH dF b1 b2;obtain ⟨ya,yp,rfl,_⟩:=aO.seg;obtain ⟨yb,yq,rfl,_⟩:=aQ.seg))
  all_goals go_wp2
  all_goals (refine rE Tryz.results201 rfl (az x.1 (.slice ya x.1.cells.length yp) (.slice yb x.1.words.length yq) tY) rfl (aj x.2.1 tY) ⟨⟨_,_,rfl,?_,?_,dQ,dR⟩,by exact zN⟩)
  all_goals (first|exact zP aO aO aD|skip)
  all_goals (first|exact zP aQ aQ aF|skip)
theorem oJ (c:Ch) (h:Ha) (v1 v2:Value) (lo:Nat) (w:World) (h1:ah w lo v1 c.cells) (h2:ai w lo v2 c.words) (hc0:0≤h.cell) (hc1:h.cell<c.cells.length) (hso:h.seen=0) :
    (∀ (hx:h.cell<h.come) (ht:bn c h.cell h.seen 2 0=true),Calls Tryz.prog 201 #[.agg (af c v1 v2),.agg (aa h)] w fun r w'=>cK w w' lo v1 v2 (iE c h) r) ∧
    (∀ (hx:h.come≤h.cell) (hy:h.cell<h.fin) (ht:bn c h.cell h.seen 2 0=true),Calls Tryz.prog 201 #[.agg (af c v1 v2),.agg (aa h)] w fun r w'=>cK w w' lo v1 v2 (iE c h) r):=by
  constructor
  case' left =>
    intro hx ht
    have mA:Hid (0=0):=rfl
  case' right =>
    intro hx hy ht
    have mB:Hid (0=0):=rfl
  all_goals
    obtain ⟨i,hci⟩:∃ i:Nat,h.cell=(i:Int):=⟨h.cell.toNat,by omega⟩
    have hs:=hso
    rw [hci,hs] at ht
    first
    | (replace mA:=mA;have e:iE c h=done (bf c i 0 2 0) (aS 1 0):=by simp [iE,hs,hci,ht,show ¬ h.come≤i by omega])
    | (replace mB:=mB;have e:iE c h=done (bf c i 0 2 0) (aS 1 0):=by simp [iE,hs,hci,ht,show ¬ h.fin≤i by omega])
    rw [e]
    have hi:i<c.cells.length:=by omega
    have T:=Lib.hid fun W a b=>iw c i 0 2 0 v1 v2 lo W a b hi
    have D:=Lib.hid fun W=>aW (bf c i 0 2 0) (aS 1 0) v1 v2 lo W
    generalize done (bf c i 0 2 0) (aS 1 0)=x at *
    rw [ht] at T
    have b1:=jc h1
    have b2:=jc h2
    have m1:=lD b1
    have m10:=m1 w.heap.size tO
    have m11:=m1 (w.heap.size+1) tO
    have m12:=m1 (w.heap.size+1+1) tO
    have m13:=m1 (w.heap.size+1+1+1) tO
    have o1:=h1
    have o2:=h2
    obtain ⟨a1,q1,e1,_⟩:=h1.seg
    obtain ⟨a2,q2,e2,_⟩:=h2.seg
    subst e1 e2
    clear h1 h2 e hso
    first
    | (replace mA:=mA
       have hx2:¬ h.come≤(i:Int):=by omega
       clear hx)
    | (replace mB:=mB
       have hx2:h.come≤(i:Int):=by omega
       have hy2:¬ h.fin≤(i:Int):=by omega
       clear hx hy)
    go_enter Tryz.func201,Tryz.ntmps201
    go_wp2_with fail;refine (T.out _ (zO o1 o1) (zO o2 o2)).mono ?_;rintro _ w1 ⟨rfl,p1,p2,hgw1⟩;have ak:=hgw1.size;(try (simp at ak));have zz:=MF hgw1 (b:=w.heap.size);(try simp [go_sem] at zz);replace bX:=dx zz;clear zz;have jJ:=Gg (w:=w) zB hgw1;clear hgw1
    have tL:gV (Value.slice a1 c.cells.length q1).ownBlock (Value.slice a2 c.words.length q2).ownBlock w w1:=kS jJ
    obtain ⟨k0,k1,k2,k3⟩:=jW (a:=w.heap.size) (b:=w1.heap.size)
    go_wp2_with fail
    go_region_with (first|((go_at_call 130;refine au w1 zB fun bk=>?_;refine (fB _ _ _).mono ?_;rintro _ w2 ⟨rfl,hbw2⟩;have aR:=hbw2.size;(try simp at aR);have zz:=And.intro (hQ hbw2 (b:=w1.heap.size)) <| And.intro (hQ hbw2 (b:=w.heap.size+1+1+1)) <| And.intro (hQ hbw2 (b:=w.heap.size+1+1)) <| And.intro (hQ hbw2 (b:=w.heap.size+1)) <| hQ hbw2 (b:=w.heap.size);(first|simp [go_sem,bX,k0,k1,k2,k3] at zz|simp [go_sem] at zz|skip);replace bX:=jb zz;clear zz;have dW:=bT bk hbw2;clear hbw2 bk);have r1:ah w2 lo (.slice a1 c.cells.length q1) (bf c i 0 2 0).cells:=own_below p1 dW;have r2:ai w2 lo (.slice a2 c.words.length q2) (bf c i 0 2 0).words:=own_below p2 dW)|((go_at_call 198;refine au w2 zB fun bk=>?_;refine (D.out _ (zO r1 r1) (zO r2 r2)).mono ?_;rintro _ w3 ⟨⟨y1,y2,rfl,aO,aQ,dH,dF⟩,aC⟩;have bM:=aC.size;(try simp at bM);have zz:=AZ aC (b:=w.heap.size);(first|simp [go_sem,bX,k0,k1,k2,k3] at zz|simp [go_sem] at zz|skip);replace bX:=dx zz;clear zz;have tN:=bT bk aC;clear aC bk);have hO3:=fA tL (fA (dA dW) (dA tN));obtain ⟨⟨aD,aF⟩,dQ,dR⟩:=sO (w:=w) (w.heap.size+1+1+1+1) dH dF b1 b2;obtain ⟨ya,yp,rfl,_⟩:=aO.seg;obtain ⟨yb,yq,rfl,_⟩:=aQ.seg))
    all_goals go_wp2
    all_goals (refine rE Tryz.results201 rfl (az x.1 (.slice ya x.1.cells.length yp) (.slice yb x.1.words.length yq) tY) rfl (aj x.2.1 tY) ⟨⟨_,_,rfl,?_,?_,dQ,dR⟩,by exact zN⟩)
    all_goals (first|exact zP aO aO aD|skip)
    all_goals (first|exact zP aQ aQ aF|skip)
theorem y9 (c:Ch) (h:Ha) (v1 v2:Value) (lo:Nat) (w:World) (h1:ah w lo v1 c.cells) (h2:ai w lo v2 c.words) (hc0:0≤h.cell) (hc1:h.cell<c.cells.length) (hso:h.seen=0) (hx:h.cell<h.come) (ht:bn c h.cell h.seen 2 0=true) :
    Calls Tryz.prog 201 #[.agg (af c v1 v2),.agg (aa h)] w fun r w'=>cK w w' lo v1 v2 (iE c h) r:=(oJ c h v1 v2 lo w h1 h2 hc0 hc1 hso).1 hx ht
theorem yA (c:Ch) (h:Ha) (v1 v2:Value) (lo:Nat) (w:World) (h1:ah w lo v1 c.cells) (h2:ai w lo v2 c.words) (hc0:0≤h.cell) (hc1:h.cell<c.cells.length) (hso:h.seen=0) (hx:h.come≤h.cell) (hy:h.cell<h.fin) (ht:bn c h.cell h.seen 2 0=true) :
    Calls Tryz.prog 201 #[.agg (af c v1 v2),.agg (aa h)] w fun r w'=>cK w w' lo v1 v2 (iE c h) r:=(oJ c h v1 v2 lo w h1 h2 hc0 hc1 hso).2 hx hy ht
end
section
open Go.RowKit
attribute [local simp] aI
attribute [local go_sem ↓] aH aU aM bz aN bB aA aK ax aB
theorem yB (c:Ch) (h:Ha) (v1 v2:Value) (lo:Nat) (w:World) (h1:ah w lo v1 c.cells) (h2:ai w lo v2 c.words) (hc0:0≤h.cell) (hc1:h.cell<c.cells.length) (hso:h.seen=1) (ht:bn c h.cell h.seen 2 0=false) :
    bY 201 c h v1 v2 lo w (iE c h):=by
  obtain ⟨i,hci⟩:∃ i:Nat,h.cell=(i:Int):=⟨h.cell.toNat,by omega⟩
  have hs:=hso
  rw [hci,hs] at ht
  have e:iE c h=done (bf c i 1 2 0) { h with pos:=3,cell:=(i:Int),seen:=1 }:=by simp [iE,hs,hci,ht]
  rw [e]
  have hi:i<c.cells.length:=by omega
  have T:=Lib.hid fun W a b=>iw c i 1 2 0 v1 v2 lo W a b hi
  have D:=Lib.hid fun W=>aW (bf c i 1 2 0) { h with pos:=3,cell:=(i:Int),seen:=1 } v1 v2 lo W
  generalize done (bf c i 1 2 0) { h with pos:=3,cell:=(i:Int),seen:=1 }=x at *
  rw [ht] at T
  have b1:=jc h1
  have b2:=jc h2
  have m1:=lD b1
  have m10:=m1 w.heap.size tO
  have m11:=m1 (w.heap.size+1) tO
  have m12:=m1 (w.heap.size+1+1) tO
  have m13:=m1 (w.heap.size+1+1+1) tO
  have o1:=h1
  have o2:=h2
  obtain ⟨a1,q1,e1,_⟩:=h1.seg
  obtain ⟨a2,q2,e2,_⟩:=h2.seg
  subst e1 e2
  clear h1 h2 e hso
  go_enter Tryz.func201,Tryz.ntmps201
  go_wp2_with fail;refine (T.out _ (zO o1 o1) (zO o2 o2)).mono ?_;rintro _ w1 ⟨rfl,p1,p2,hgw1⟩;have ak:=hgw1.size;(try (simp at ak));have zz:=MF hgw1 (b:=w.heap.size);(try simp [go_sem] at zz);replace bX:=dx zz;clear zz;have jJ:=Gg (w:=w) zB hgw1;clear hgw1
  have tL:gV (Value.slice a1 c.cells.length q1).ownBlock (Value.slice a2 c.words.length q2).ownBlock w w1:=kS jJ
  obtain ⟨k0,k1,k2,k3⟩:=jW (a:=w.heap.size) (b:=w1.heap.size)
  have r1:ah w1 lo (.slice a1 c.cells.length q1) (bf c i 1 2 0).cells:=p1
  have r2:ai w1 lo (.slice a2 c.words.length q2) (bf c i 1 2 0).words:=p2
  go_wp2_with fail
  refine (D.out _ (zO r1 o1) (zO r2 o2)).mono ?_
  rintro _ w3 ⟨⟨y1,y2,rfl,aO,aQ,dH,dF⟩,aC⟩
  have hO3:gV (Value.slice a1 c.cells.length q1).ownBlock (Value.slice a2 c.words.length q2).ownBlock w w3:=fA zN (dA aC)
  have bM:=aC.size;(try simp at bM);have zz:=AZ aC (b:=w.heap.size);(first|simp [go_sem,bX,k0,k1,k2,k3] at zz|simp [go_sem] at zz|skip);replace bX:=dx zz;clear zz aC
  obtain ⟨⟨aD,aF⟩,dQ,dR⟩:=sO (w:=w) (w.heap.size+1+1+1+1) dH dF b1 b2;obtain ⟨ya,yp,rfl,_⟩:=aO.seg;obtain ⟨yb,yq,rfl,_⟩:=aQ.seg
  go_wp2
  refine rE Tryz.results201 rfl (az x.1 (.slice ya x.1.cells.length yp) (.slice yb x.1.words.length yq) tY) rfl (aj x.2.1 tY) ⟨⟨_,_,rfl,?_,?_,dQ,dR⟩,by exact zN⟩
  · exact zP aO aO aD
  · exact zP aQ aQ aF
theorem oK (c:Ch) (h:Ha) (v1 v2:Value) (lo:Nat) (w:World) (h1:ah w lo v1 c.cells) (h2:ai w lo v2 c.words) (hc0:0≤h.cell) (hc1:h.cell<c.cells.length) (hso:h.seen=0) :
    (∀ (hx:h.cell<h.come) (ht:bn c h.cell h.seen 2 0=false),Calls Tryz.prog 201 #[.agg (af c v1 v2),.agg (aa h)] w fun r w'=>cK w w' lo v1 v2 (iE c h) r) ∧
    (∀ (hx:h.come≤h.cell) (hy:h.cell<h.fin) (ht:bn c h.cell h.seen 2 0=false),Calls Tryz.prog 201 #[.agg (af c v1 v2),.agg (aa h)] w fun r w'=>cK w w' lo v1 v2 (iE c h) r):=by
  constructor
  case' left =>
    intro hx ht
    have mA:Hid (0=0):=rfl
  case' right =>
    intro hx hy ht
    have mB:Hid (0=0):=rfl
  all_goals
    obtain ⟨i,hci⟩:∃ i:Nat,h.cell=(i:Int):=⟨h.cell.toNat,by omega⟩
    have hs:=hso
    rw [hci,hs] at ht
    first
    | (replace mA:=mA;have e:iE c h=done (bf c i 0 2 0) { h with pos:=3,cell:=(i:Int),seen:=0 }:=by simp [iE,hs,hci,ht,show ¬ h.come≤i by omega])
    | (replace mB:=mB;have e:iE c h=done (bf c i 0 2 0) { h with pos:=3,cell:=(i:Int),seen:=0 }:=by simp [iE,hs,hci,ht,show ¬ h.fin≤i by omega])
    rw [e]
    have hi:i<c.cells.length:=by omega
    have T:=Lib.hid fun W a b=>iw c i 0 2 0 v1 v2 lo W a b hi
    have D:=Lib.hid fun W=>aW (bf c i 0 2 0) { h with pos:=3,cell:=(i:Int),seen:=0 } v1 v2 lo W
    generalize done (bf c i 0 2 0) { h with pos:=3,cell:=(i:Int),seen:=0 }=x at *
    rw [ht] at T
    have b1:=jc h1
    have b2:=jc h2
    have m1:=lD b1
    have m10:=m1 w.heap.size tO
    have m11:=m1 (w.heap.size+1) tO
    have m12:=m1 (w.heap.size+1+1) tO
    have m13:=m1 (w.heap.size+1+1+1) tO
    have o1:=h1
    have o2:=h2
    obtain ⟨a1,q1,e1,_⟩:=h1.seg
    obtain ⟨a2,q2,e2,_⟩:=h2.seg
    subst e1 e2
    clear h1 h2 e hso
    first
    | (replace mA:=mA
       have hx2:¬ h.come≤(i:Int):=by omega
       clear hx)
    | (replace mB:=mB
       have hx2:h.come≤(i:Int):=by omega
       have hy2:¬ h.fin≤(i:Int):=by omega
       clear hx hy)
    go_enter Tryz.func201,Tryz.ntmps201
    go_wp2_with fail;refine (T.out _ (zO o1 o1) (zO o2 o2)).mono ?_;rintro _ w1 ⟨rfl,p1,p2,hgw1⟩;have ak:=hgw1.size;(try (simp at ak));have zz:=MF hgw1 (b:=w.heap.size);(try simp [go_sem] at zz);replace bX:=dx zz;clear zz;have jJ:=Gg (w:=w) zB hgw1;clear hgw1
    have tL:gV (Value.slice a1 c.cells.length q1).ownBlock (Value.slice a2 c.words.length q2).ownBlock w w1:=kS jJ
    obtain ⟨k0,k1,k2,k3⟩:=jW (a:=w.heap.size) (b:=w1.heap.size)
    have r1:ah w1 lo (.slice a1 c.cells.length q1) (bf c i 0 2 0).cells:=p1
    have r2:ai w1 lo (.slice a2 c.words.length q2) (bf c i 0 2 0).words:=p2
    go_wp2_with fail
    refine (D.out _ (zO r1 o1) (zO r2 o2)).mono ?_
    rintro _ w3 ⟨⟨y1,y2,rfl,aO,aQ,dH,dF⟩,aC⟩
    have hO3:gV (Value.slice a1 c.cells.length q1).ownBlock (Value.slice a2 c.words.length q2).ownBlock w w3:=fA zN (dA aC)
    have bM:=aC.size;(try simp at bM);have zz:=AZ aC (b:=w.heap.size);(first|simp [go_sem,bX,k0,k1,k2,k3] at zz|simp [go_sem] at zz|skip);replace bX:=dx zz;clear zz aC
    obtain ⟨⟨aD,aF⟩,dQ,dR⟩:=sO (w:=w) (w.heap.size+1+1+1+1) dH dF b1 b2;obtain ⟨ya,yp,rfl,_⟩:=aO.seg;obtain ⟨yb,yq,rfl,_⟩:=aQ.seg
    go_wp2
    refine rE Tryz.results201 rfl (az x.1 (.slice ya x.1.cells.length yp) (.slice yb x.1.words.length yq) tY) rfl (aj x.2.1 tY) ⟨⟨_,_,rfl,?_,?_,dQ,dR⟩,by exact zN⟩
    · exact zP aO aO aD
    · exact zP aQ aQ aF
theorem yC (c:Ch) (h:Ha) (v1 v2:Value) (lo:Nat) (w:World) (h1:ah w lo v1 c.cells) (h2:ai w lo v2 c.words) (hc0:0≤h.cell) (hc1:h.cell<c.cells.length) (hso:h.seen=0) (hx:h.cell<h.come) (ht:bn c h.cell h.seen 2 0=false) :
    Calls Tryz.prog 201 #[.agg (af c v1 v2),.agg (aa h)] w fun r w'=>cK w w' lo v1 v2 (iE c h) r:=(oK c h v1 v2 lo w h1 h2 hc0 hc1 hso).1 hx ht
theorem yD (c:Ch) (h:Ha) (v1 v2:Value) (lo:Nat) (w:World) (h1:ah w lo v1 c.cells) (h2:ai w lo v2 c.words) (hc0:0≤h.cell) (hc1:h.cell<c.cells.length) (hso:h.seen=0) (hx:h.come≤h.cell) (hy:h.cell<h.fin) (ht:bn c h.cell h.seen 2 0=false) :
    Calls Tryz.prog 201 #[.agg (af c v1 v2),.agg (aa h)] w fun r w'=>cK w w' lo v1 v2 (iE c h) r:=(oK c h v1 v2 lo w h1 h2 hc0 hc1 hso).2 hx hy ht
end
end Go.Proofs.YtffhjmepfojhnaaGreat
