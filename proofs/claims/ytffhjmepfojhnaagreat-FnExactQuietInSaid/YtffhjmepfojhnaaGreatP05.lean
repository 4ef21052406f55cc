/-
  The reference model's putting into a cell, all cases; the lists are the call's own and hold at most 2 ^ 40 elements.
-/
import Derived.Test.YtffhjmepfojhnaaGreatP04
import Derived.Test.YtffhjmepfojhnaaGreatP03
import Derived.Test.YtffhjmepfojhnaaGreatP01
import Derived.Deep.RegionHeld3
import Derived.Test.YtffhjmepfojhnaaGreatP02
set_option maxRecDepth 100000
set_option maxHeartbeats 2000000
set_option linter.unusedSimpArgs false
set_option linter.unusedVariables false
namespace Go.Proofs.YtffhjmepfojhnaaGreat
section
open Go.RowKit
theorem EB (c:Ch) (h:Ha) (v1 v2:Value) (lo:Nat) (w:World) (h1:ah w lo v1 c.cells) (h2:ai w lo v2 c.words) (hlo:lo≤w.heap.size) (hc0:0≤h.cell) (hc1:h.cell<c.cells.length) :
  bY 201 c h v1 v2 lo w (iE c h):=by
 by_cases hs:(h.seen != 0 && h.seen != 1)=true
 ·exact Bz c h v1 v2 lo w h1 h2 hs
 ·have hs2:h.seen=0∨h.seen=1:=by simp at hs;omega
  rcases hs2 with h0|h0
  ·by_cases hx:h.come≤h.cell
   ·by_cases hy:h.fin≤h.cell
    ·exact BA c h v1 v2 lo w h1 h2 hlo hc0 hc1 h0 hx hy
    ·cases ht:bn c h.cell h.seen 2 0 with
     | true=>exact yA c h v1 v2 lo w h1 h2 hc0 hc1 h0 hx tO ht
     | false=>exact yD c h v1 v2 lo w h1 h2 hc0 hc1 h0 hx tO ht
   ·cases ht:bn c h.cell h.seen 2 0 with
    | true=>exact y9 c h v1 v2 lo w h1 h2 hc0 hc1 h0 tO ht
    | false=>exact yC c h v1 v2 lo w h1 h2 hc0 hc1 h0 tO ht
  ·cases ht:bn c h.cell h.seen 2 0 with
   | true=>exact y7 c h v1 v2 lo w h1 h2 hc0 hc1 h0 ht
   | false=>exact yB c h v1 v2 lo w h1 h2 hc0 hc1 h0 ht
end
section
open Go.RowKit
attribute [local simp] aI
attribute [local go_sem ↓] aH aU aM bz aN bB aA aK ax aB
theorem BB (c:Ch) (h:Ha) (a b:Option Addr) (p q:Nat) (w:World) (h1:eY w w.heap.size a c.cells) (z1:a=none→p=0) (h2:eZ w w.heap.size b c.words) (z2:b=none→q=0) (m1:c.cells.length≤1099511627776) (m2:c.words.length≤1099511627776) :
  Calls Tryz.prog 202 #[.agg (af c (.slice a c.cells.length p) (.slice b c.words.length q)),.agg (aa h)] w fun r w'=>(∃ v1 v2,r=.returned (.tuple #[.agg (af c v1 v2),.agg (aa (mq c h).2)])∧ah w' w.heap.size v1 c.cells∧ai w' w.heap.size v2 (dD c h.wait 1).words)∧Below w.heap.size w w':=by
 have H1:=Lib.hid h1
 have H2:=Lib.hid h2
 have Z1:=Lib.hid z1
 have Z2:=Lib.hid z2
 clear h1 h2 z1 z2
 cases ht:eU c h.wait 1 with
 | true =>
  have e:(mq c h).2={ h with pos:=8 }:=by simp [mq,ht]
  rw [e]
  go_enter Tryz.func202,Tryz.ntmps202
  go_wp2_with fail;refine au w zB fun bb=>?_;refine (nC c h.wait 1 a b p q _ (aT H1 bb) Z1.out (aT H2 bb) Z2.out m1 m2).mono ?_;rintro _ w1 ⟨⟨v1,v2,rfl,o1,o2⟩,ag⟩;obtain ⟨aV,ak,zz⟩:=dV bb ag (b:=w.heap.size);(try simp at ak);(try simp [go_sem] at zz);replace bX:=dx zz;clear zz ag bb
  rw [ht]
  try simp at o1 o2
  obtain ⟨a1,q1,rfl,_⟩:=o1.seg
  obtain ⟨a2,q2,rfl,_⟩:=o2.seg
  go_wp2
  go_region
  go_wp2
  all_goals (refine bodyPost_ret (nW Tryz.results202 rfl (az c (.slice a1 c.cells.length q1) (.slice a2 (dD c h.wait 1).words.length q2) tY) rfl (aj { h with pos:=8 } tZ)) rfl ⟨⟨_,_,rfl,ay (lo:=w.heap.size+1+1+1+1) ?_ tO,ay (lo:=w.heap.size+1+1+1+1) ?_ tO⟩,by exact zB⟩)
  ·exact zO o1 o1
  ·exact zO o2 o2
 | false =>
  have e:(mq c h).2=anew h:=by simp [mq,ht]
  rw [e]
  go_enter Tryz.func202,Tryz.ntmps202
  go_wp2_with fail;refine au w zB fun bb=>?_;refine (nC c h.wait 1 a b p q _ (aT H1 bb) Z1.out (aT H2 bb) Z2.out m1 m2).mono ?_;rintro _ w1 ⟨⟨v1,v2,rfl,o1,o2⟩,ag⟩;obtain ⟨aV,ak,zz⟩:=dV bb ag (b:=w.heap.size);(try simp at ak);(try simp [go_sem] at zz);replace bX:=dx zz;clear zz ag bb
  rw [ht]
  try simp at o1 o2
  obtain ⟨a1,q1,rfl,_⟩:=o1.seg
  obtain ⟨a2,q2,rfl,_⟩:=o2.seg
  go_wp2_with fail
  go_region_with (go_at_call 207;refine au w zB fun bb=>?_;refine au w1 zB fun bk=>?_;refine (jf _ _).mono ?_;rintro _ w2 ⟨rfl,hbw2⟩;have dh:=bT bb hbw2;have aR:=hbw2.size;(try simp at aR);have zz:=And.intro (hQ hbw2 (b:=w1.heap.size)) <| And.intro (hQ hbw2 (b:=w.heap.size+1+1+1)) <| And.intro (hQ hbw2 (b:=w.heap.size+1+1)) <| And.intro (hQ hbw2 (b:=w.heap.size+1)) <| hQ hbw2 (b:=w.heap.size);(first|simp [go_sem,bX] at zz|simp [go_sem] at zz|skip);replace bX:=jb zz;clear zz;have dW:=bT bk hbw2;clear hbw2 bb bk)
  all_goals (go_wp2_with fail)
  all_goals (have p1:=own_below o1 dW;have p2:=own_below o2 dW)
  all_goals (refine bodyPost_ret (nW Tryz.results202 rfl (az c (.slice a1 c.cells.length q1) (.slice a2 (dD c h.wait 1).words.length q2) tY) rfl (aj (anew h) tZ)) rfl ⟨⟨_,_,rfl,ay (lo:=w.heap.size+1+1+1+1) ?_ tO,ay (lo:=w.heap.size+1+1+1+1) ?_ tO⟩,by exact zB⟩)
  all_goals first|(repeat first|with_reducible exact p1|with_reducible refine xS ?_ _|with_reducible refine uZ ?_|((with_reducible first|refine bP ?_ ?_ _|refine fI ?_ ?_);rotate_left;focus first|(refine own_ne o1 ?_;(try dsimp only);omega)|(refine fU o1 ?_;(try dsimp only);omega)))|skip
  all_goals first|(repeat first|with_reducible exact p2|with_reducible refine xS ?_ _|with_reducible refine uZ ?_|((with_reducible first|refine bP ?_ ?_ _|refine fI ?_ ?_);rotate_left;focus first|(refine own_ne o2 ?_;(try dsimp only);omega)|(refine fU o2 ?_;(try dsimp only);omega)))|skip
end
section
open Go.RowKit
attribute [local simp] aI
attribute [local go_sem ↓] aH aU aM bz aN bB aA aK ax aB
theorem dY.off2 {w:World} {v v':Value} {lim b:Nat} (h:dY w v v') (hv:∀ j,v.ownBlock=some j→lim≤j) (h2:b<lim) (h3:lim≤w.heap.size):v'.ownBlock≠some b:=fun e=>by
 rcases h b e with h|h
 ·have:=hv b h;omega
 ·omega
theorem dY.up {w:World} {v v':Value} {lim n:Nat} (h:dY w v v') (hv:∀ j,v.ownBlock=some j→lim≤j) (h1:n≤lim) (h2:n≤w.heap.size) (j:Nat) (hj:v'.ownBlock=some j):n≤j:=by
 rcases h j hj with h|h
 ·have:=hv j h;omega
 ·omega
def bQ (w w':World) (x:St) (r:Ending):Prop:=qY w w' w.heap.size (.slice none 0 0) (.slice none 0 0) x r∧Below w.heap.size w w'
theorem kH {w wk:World} {v v' u u':Value} (lim:Nat) (f1:dY wk v v') (f2:dY wk u u') (d1:∀ j,v.ownBlock=some j→lim≤j) (d2:∀ j,u.ownBlock=some j→lim≤j) (h:lim≤wk.heap.size:=by (try simp) <;> omega) (g:w.heap.size≤lim:=by (try simp) <;> omega):((∀ j,w.heap.size≤j→j<lim→v'.ownBlock≠some j)∧(∀ j,w.heap.size≤j→j<lim→u'.ownBlock≠some j))∧dY w (.slice none 0 0) v'∧dY w (.slice none 0 0) u' :=
 ⟨⟨fun _ _ h2=>f1.off2 d1 h2 h,fun _ _ h2=>f2.off2 d2 h2 h⟩,fun j hj=>.inr (f1.up d1 g (Nat.le_trans g h) j hj),fun j hj=>.inr (f2.up d2 g (Nat.le_trans g h) j hj)⟩
theorem bu {c:Ch} {h:Ha} {f t k:Int} (e:aX c h f t k=true):aG c=true∧bF h=true∧f≤h.pos∧h.pos≤t:=by
 simp [aX,dL] at e
 exact ⟨e.1,e.2.1,e.2.2.1.1,e.2.2.1.2⟩
theorem dM {c:Ch} (e:aG c=true):c.cells.length=40∧c.words.length≤80:=by
 simp [aG,fo] at e
 omega
theorem fE {h:Ha} (e:bF h=true):0≤h.cell∧h.cell≤39:=by
 simp [bF,uX,dL] at e
 omega
theorem He (c:Ch) (h:Ha) (a b:Option Addr) (p q:Nat) (w:World) (h1:eY w w.heap.size a c.cells) (h2:eZ w w.heap.size b c.words) (hk:aX c h 1 8 1=false) :
  Calls Tryz.prog 189 #[.agg (af c (.slice a c.cells.length p) (.slice b c.words.length q)),.agg (aa h)] w fun r w'=>bQ w w' (bK c h) r:=by
 have e:bK c h=nothing:=by simp [bK,hk]
 rw [e]
 have H1:=Lib.hid h1
 have H2:=Lib.hid h2
 have T:=Lib.hid fun W=>fQ W w.heap.size (.slice none 0 0) (.slice none 0 0)
 generalize nothing=x at *
 clear h1 h2 e
 have d1:∀ j,(Value.slice none 0 0).ownBlock=some j→w.heap.size+1+1+1+1≤j:=fun j hj=>by cases hj
 have d2:=d1
 go_enter Tryz.func189,Tryz.ntmps189
 go_wp2_with fail;refine au w zB fun bb=>?_;refine (bZ c h 1 8 1 a b p q _ (aT H1 bb) (aT H2 bb)).mono ?_;rintro _ w1 ⟨rfl,ag⟩;obtain ⟨aV,ak,zz⟩:=dV bb ag (b:=w.heap.size);(try simp at ak);(try simp [go_sem] at zz);replace bX:=dx zz;clear zz ag bb
 rw [hk]
 go_wp2_with fail;refine au w zB fun bb=>?_;refine (T.out _).mono ?_;rintro _ w2 ⟨⟨y1,y2,rfl,aO,aQ,dH,dF⟩,hbw2⟩;obtain ⟨dh,aR,zz⟩:=dV bb hbw2 (b:=w.heap.size);(try simp at aR);(first|simp [go_sem,bX] at zz|simp [go_sem] at zz|skip);replace bX:=dx zz;clear zz hbw2 bb
 have aD:∀ j,w.heap.size≤j→j<w.heap.size+1+1+1+1→y1.ownBlock≠some j:=fun j _ h2=>dH.off2 d1 h2 tS;have aF:∀ j,w.heap.size≤j→j<w.heap.size+1+1+1+1→y2.ownBlock≠some j:=fun j _ h2=>dF.off2 d2 h2 tS;have dQ:dY w (.slice none 0 0) y1:=fun j hj=>.inr (dH.up d1 tS tS j hj);have dR:dY w (.slice none 0 0) y2:=fun j hj=>.inr (dF.up d2 tS tS j hj);obtain ⟨ya,yp,rfl,_⟩:=aO.seg;obtain ⟨yb,yq,rfl,_⟩:=aQ.seg
 go_wp2
 refine rE Tryz.results189 rfl (az x.1 (.slice ya x.1.cells.length yp) (.slice yb x.1.words.length yq) tY) rfl (aj x.2.1 tY) ⟨⟨_,_,rfl,?_,?_,dQ,dR⟩,by exact zB⟩
 ·exact zP aO aO aD
 ·exact zP aQ aQ aF
theorem JX (c:Ch) (h:Ha) (a b:Option Addr) (p q:Nat) (w:World) (h1:eY w w.heap.size a c.cells) (z1:a=none→p=0) (h2:eZ w w.heap.size b c.words) (z2:b=none→q=0) (hk:aX c h 1 8 1=true) (hp0:h.pos=4) :
  Calls Tryz.prog 189 #[.agg (af c (.slice a c.cells.length p) (.slice b c.words.length q)),.agg (aa h)] w fun r w'=>bQ w w' (bK c h) r:=by
 have e:bK c h=done c { h with fin:=c.fin,pos:=5 }:=by simp [bK,hk,hp0]
 rw [e]
 obtain ⟨k1,k2,_,_⟩:=bu hk
 obtain ⟨n1,n2⟩:=dM k1
 have m1:c.cells.length≤1099511627776:=by omega
 have m2:c.words.length≤1099511627776:=by omega
 have H1:=Lib.hid h1
 have H2:=Lib.hid h2
 have Z1:=Lib.hid z1
 have Z2:=Lib.hid z2
 have D:=Lib.hid fun v1 v2 W=>aW c { h with fin:=c.fin,pos:=5 } v1 v2 w.heap.size W
 generalize done c { h with fin:=c.fin,pos:=5 }=x at *
 clear h1 h2 z1 z2 e k1 k2 n1 n2
 go_enter Tryz.func189,Tryz.ntmps189
 go_wp2_with fail;refine au w zB fun bb=>?_;refine (bZ c h 1 8 1 a b p q _ (aT H1 bb) (aT H2 bb)).mono ?_;rintro _ w1 ⟨rfl,ag⟩;obtain ⟨aV,ak,zz⟩:=dV bb ag (b:=w.heap.size);(try simp at ak);(try simp [go_sem] at zz);replace bX:=dx zz;clear zz ag bb
 rw [hk]
 go_wp2_with fail;refine au w zB fun bb=>?_;refine (cO c a b p q _ (aT H1 bb) Z1.out (aT H2 bb) Z2.out m1 m2).mono ?_;rintro _ w2 ⟨⟨v1,v2,rfl,o1,o2⟩,hbw2⟩;obtain ⟨dh,aR,zz⟩:=dV bb hbw2 (b:=w.heap.size);(try simp at aR);(first|simp [go_sem,bX] at zz|simp [go_sem] at zz|skip);replace bX:=dx zz;clear zz hbw2 bb
 have d1:=iH o1 (w.heap.size+1+1+1+1)
 have d2:=iH o2 (w.heap.size+1+1+1+1)
 have p1:=ay (lo':=w.heap.size) o1 tO
 have p2:=ay (lo':=w.heap.size) o2 tO
 obtain ⟨a1,q1,rfl,_⟩:=o1.seg
 obtain ⟨a2,q2,rfl,_⟩:=o2.seg
 go_wp2_with fail;refine au w zB fun bb=>?_;refine (D.out _ _ _ (zO p1 o1) (zO p2 o2)).mono ?_;rintro _ w3 ⟨⟨y1,y2,rfl,aO,aQ,dH,dF⟩,aC⟩;obtain ⟨iG,bM,zz⟩:=dV bb aC (b:=w.heap.size);(try simp at bM);(first|simp [go_sem,bX] at zz|simp [go_sem] at zz|skip);replace bX:=dx zz;clear zz aC bb
 have aD:∀ j,w.heap.size≤j→j<w.heap.size+1+1+1+1→y1.ownBlock≠some j:=fun j _ h2=>dH.off2 d1 h2 tS;have aF:∀ j,w.heap.size≤j→j<w.heap.size+1+1+1+1→y2.ownBlock≠some j:=fun j _ h2=>dF.off2 d2 h2 tS;have dQ:dY w (.slice none 0 0) y1:=fun j hj=>.inr (dH.up d1 tS tS j hj);have dR:dY w (.slice none 0 0) y2:=fun j hj=>.inr (dF.up d2 tS tS j hj);obtain ⟨ya,yp,rfl,_⟩:=aO.seg;obtain ⟨yb,yq,rfl,_⟩:=aQ.seg
 go_wp2
 refine rE Tryz.results189 rfl (az x.1 (.slice ya x.1.cells.length yp) (.slice yb x.1.words.length yq) tY) rfl (aj x.2.1 tY) ⟨⟨_,_,rfl,?_,?_,dQ,dR⟩,by exact zB⟩
 ·exact zP aO aO aD
 ·exact zP aQ aQ aF
theorem JY (c:Ch) (h:Ha) (a b:Option Addr) (p q:Nat) (w:World) (h1:eY w w.heap.size a c.cells) (z1:a=none→p=0) (h2:eZ w w.heap.size b c.words) (z2:b=none→q=0) (hk:aX c h 1 8 1=true) (hp0:h.pos=5) :
  Calls Tryz.prog 189 #[.agg (af c (.slice a c.cells.length p) (.slice b c.words.length q)),.agg (aa h)] w fun r w'=>bQ w w' (bK c h) r:=by
 have e:bK c h=done c { h with come:=c.got,pos:=6 }:=by simp [bK,hk,hp0]
 rw [e]
 obtain ⟨k1,k2,_,_⟩:=bu hk
 obtain ⟨n1,n2⟩:=dM k1
 have m1:c.cells.length≤1099511627776:=by omega
 have m2:c.words.length≤1099511627776:=by omega
 have H1:=Lib.hid h1
 have H2:=Lib.hid h2
 have Z1:=Lib.hid z1
 have Z2:=Lib.hid z2
 have D:=Lib.hid fun v1 v2 W=>aW c { h with come:=c.got,pos:=6 } v1 v2 w.heap.size W
 generalize done c { h with come:=c.got,pos:=6 }=x at *
 clear h1 h2 z1 z2 e k1 k2 n1 n2
 go_enter Tryz.func189,Tryz.ntmps189
 go_wp2_with fail;refine au w zB fun bb=>?_;refine (bZ c h 1 8 1 a b p q _ (aT H1 bb) (aT H2 bb)).mono ?_;rintro _ w1 ⟨rfl,ag⟩;obtain ⟨aV,ak,zz⟩:=dV bb ag (b:=w.heap.size);(try simp at ak);(try simp [go_sem] at zz);replace bX:=dx zz;clear zz ag bb
 rw [hk]
 go_wp2_with fail;refine au w zB fun bb=>?_;refine (cO c a b p q _ (aT H1 bb) Z1.out (aT H2 bb) Z2.out m1 m2).mono ?_;rintro _ w2 ⟨⟨v1,v2,rfl,o1,o2⟩,hbw2⟩;obtain ⟨dh,aR,zz⟩:=dV bb hbw2 (b:=w.heap.size);(try simp at aR);(first|simp [go_sem,bX] at zz|simp [go_sem] at zz|skip);replace bX:=dx zz;clear zz hbw2 bb
 have d1:=iH o1 (w.heap.size+1+1+1+1)
 have d2:=iH o2 (w.heap.size+1+1+1+1)
 have p1:=ay (lo':=w.heap.size) o1 tO
 have p2:=ay (lo':=w.heap.size) o2 tO
 obtain ⟨a1,q1,rfl,_⟩:=o1.seg
 obtain ⟨a2,q2,rfl,_⟩:=o2.seg
 go_wp2_with fail;refine au w zB fun bb=>?_;refine (D.out _ _ _ (zO p1 o1) (zO p2 o2)).mono ?_;rintro _ w3 ⟨⟨y1,y2,rfl,aO,aQ,dH,dF⟩,aC⟩;obtain ⟨iG,bM,zz⟩:=dV bb aC (b:=w.heap.size);(try simp at bM);(first|simp [go_sem,bX] at zz|simp [go_sem] at zz|skip);replace bX:=dx zz;clear zz aC bb
 have aD:∀ j,w.heap.size≤j→j<w.heap.size+1+1+1+1→y1.ownBlock≠some j:=fun j _ h2=>dH.off2 d1 h2 tS;have aF:∀ j,w.heap.size≤j→j<w.heap.size+1+1+1+1→y2.ownBlock≠some j:=fun j _ h2=>dF.off2 d2 h2 tS;have dQ:dY w (.slice none 0 0) y1:=fun j hj=>.inr (dH.up d1 tS tS j hj);have dR:dY w (.slice none 0 0) y2:=fun j hj=>.inr (dF.up d2 tS tS j hj);obtain ⟨ya,yp,rfl,_⟩:=aO.seg;obtain ⟨yb,yq,rfl,_⟩:=aQ.seg
 go_wp2
 refine rE Tryz.results189 rfl (az x.1 (.slice ya x.1.cells.length yp) (.slice yb x.1.words.length yq) tY) rfl (aj x.2.1 tY) ⟨⟨_,_,rfl,?_,?_,dQ,dR⟩,by exact zB⟩
 ·exact zP aO aO aD
 ·exact zP aQ aQ aF
theorem Hf (c:Ch) (h:Ha) (a b:Option Addr) (p q:Nat) (w:World) (h1:eY w w.heap.size a c.cells) (z1:a=none→p=0) (h2:eZ w w.heap.size b c.words) (z2:b=none→q=0) (hk:aX c h 1 8 1=true) (hp0:h.pos=1) (hs:¬ c.sent=40) (EC:0≤c.sent∧c.sent≤40) :
  Calls Tryz.prog 189 #[.agg (af c (.slice a c.cells.length p) (.slice b c.words.length q)),.agg (aa h)] w fun r w'=>bQ w w' (bK c h) r:=by
 have e:bK c h=done { c with sent:=c.sent+1 } { h with cell:=c.sent,pos:=2 }:=by simp [bK,hk,hp0,DR,hs]
 rw [e]
 obtain ⟨k1,k2,_,_⟩:=bu hk
 obtain ⟨n1,n2⟩:=dM k1
 have m1:c.cells.length≤1099511627776:=by omega
 have m2:c.words.length≤1099511627776:=by omega
 have H1:=Lib.hid h1
 have H2:=Lib.hid h2
 have Z1:=Lib.hid z1
 have Z2:=Lib.hid z2
 have D:=Lib.hid fun v1 v2 W=>aW { c with sent:=c.sent+1 } { h with cell:=c.sent,pos:=2 } v1 v2 w.heap.size W
 generalize done { c with sent:=c.sent+1 } { h with cell:=c.sent,pos:=2 }=x at *
 clear h1 h2 z1 z2 e k1 k2 n1 n2
 go_enter Tryz.func189,Tryz.ntmps189
 go_wp2_with fail;refine au w zB fun bb=>?_;refine (bZ c h 1 8 1 a b p q _ (aT H1 bb) (aT H2 bb)).mono ?_;rintro _ w1 ⟨rfl,ag⟩;obtain ⟨aV,ak,zz⟩:=dV bb ag (b:=w.heap.size);(try simp at ak);(try simp [go_sem] at zz);replace bX:=dx zz;clear zz ag bb
 rw [hk]
 go_wp2_with fail;refine au w zB fun bb=>?_;refine (cO c a b p q _ (aT H1 bb) Z1.out (aT H2 bb) Z2.out m1 m2).mono ?_;rintro _ w2 ⟨⟨v1,v2,rfl,o1,o2⟩,hbw2⟩;obtain ⟨dh,aR,zz⟩:=dV bb hbw2 (b:=w.heap.size);(try simp at aR);(first|simp [go_sem,bX] at zz|simp [go_sem] at zz|skip);replace bX:=dx zz;clear zz hbw2 bb
 have d1:=iH o1 (w.heap.size+1+1+1+1)
 have d2:=iH o2 (w.heap.size+1+1+1+1)
 have p1:=ay (lo':=w.heap.size) o1 tO
 have p2:=ay (lo':=w.heap.size) o2 tO
 obtain ⟨a1,q1,rfl,_⟩:=o1.seg
 obtain ⟨a2,q2,rfl,_⟩:=o2.seg
 have hs0:¬ c.sent=40:=hs
 have hsb:0≤c.sent∧c.sent≤40:=EC
 go_wp2_with fail;refine au w zB fun bb=>?_;refine (D.out _ _ _ (zO p1 o1) (zO p2 o2)).mono ?_;rintro _ w3 ⟨⟨y1,y2,rfl,aO,aQ,dH,dF⟩,aC⟩;obtain ⟨iG,bM,zz⟩:=dV bb aC (b:=w.heap.size);(try simp at bM);(first|simp [go_sem,bX] at zz|simp [go_sem] at zz|skip);replace bX:=dx zz;clear zz aC bb
 have aD:∀ j,w.heap.size≤j→j<w.heap.size+1+1+1+1→y1.ownBlock≠some j:=fun j _ h2=>dH.off2 d1 h2 tS;have aF:∀ j,w.heap.size≤j→j<w.heap.size+1+1+1+1→y2.ownBlock≠some j:=fun j _ h2=>dF.off2 d2 h2 tS;have dQ:dY w (.slice none 0 0) y1:=fun j hj=>.inr (dH.up d1 tS tS j hj);have dR:dY w (.slice none 0 0) y2:=fun j hj=>.inr (dF.up d2 tS tS j hj);obtain ⟨ya,yp,rfl,_⟩:=aO.seg;obtain ⟨yb,yq,rfl,_⟩:=aQ.seg
 go_wp2
 refine rE Tryz.results189 rfl (az x.1 (.slice ya x.1.cells.length yp) (.slice yb x.1.words.length yq) tY) rfl (aj x.2.1 tY) ⟨⟨_,_,rfl,?_,?_,dQ,dR⟩,by exact zB⟩
 ·exact zP aO aO aD
 ·exact zP aQ aQ aF
end
section
open Go.RowKit
def upd {α:Type} (f:Nat→α) (k:Nat) (v:α):Nat→α:=fun j=>cond (Nat.beq j k) v (f j)
theorem ae {α:Type} (f:Nat→α) (k j:Nat) (v:α):upd f k v j=if j=k then v else f j:=by
 unfold upd
 by_cases h:j=k
 ·subst h;simp
 ·have:Nat.beq j k=false:=by cases hb:Nat.beq j k with
   | false=>rfl
   | true=>exact absurd (Nat.eq_of_beq_eq_true hb) h
  simp [this,h]
theorem nU {b:Bool} {P:Prop} (e:b=false) (h:b=true):P:=by rw [e] at h;cases h
def gp (t:Array Value):List Nat→(Nat→Value)→Array Value
 | [],_=>t
 | d :: ds,s=>(gp t ds s).setIfInBounds d (s d)
def fill (a:Act) (ds:List Nat) (s:Nat→Value):Act:=⟨gp a.tmps ds s,a.defers⟩
theorem BC (t:Array Value) (ds:List Nat) (s:Nat→Value):(gp t ds s).size=t.size:=by
 induction ds with
 | nil=>rfl
 | cons d ds ih=>simp [gp,ih]
theorem ED (t:Array Value) (ds:List Nat) (s:Nat→Value) (k:Nat):(gp t ds s)[k]?=if k ∈ ds then (t[k]?).map (fun _=>s k) else t[k]?:=by
 induction ds with
 | nil=>simp [gp]
 | cons d ds ih =>
  simp only [gp,Array.getElem?_setIfInBounds,BC]
  by_cases h:d=k
  ·subst h
   by_cases hl:d<t.size
   ·simp [hl]
   ·simp [hl]
  ·have h2:¬ k=d:=fun e=>h e.symm
   simp only [h,if_false,List.mem_cons,h2,false_or]
   exact ih
theorem EE (a:Act) (ds:List Nat):fill a ds (fun k=>a.tmps.getD k undef)=a:=by
 unfold fill
 have:gp a.tmps ds (fun k=>a.tmps.getD k undef)=a.tmps:=by
  apply Array.ext_getElem?
  intro k
  rw [ED]
  by_cases hl:k<a.tmps.size
  ·simp [hl]
  ·simp [hl]
 rw [this]
def left (l:Nat→Bool):Nat→Nat
 | 0=>0
 | n+1=>left l n+cond (l n) 0 1
theorem Hg (l:Nat→Bool) (i n:Nat) (h:n≤i):left (upd l i true) n=left l n:=by
 induction n with
 | zero=>rfl
 | succ n ih =>
  have:upd l i true n=l n:=by rw [ae,if_neg tO]
  simp [left,ih tO,this]
theorem Hl (l:Nat→Bool) (i n:Nat) (h:i<n) (hi:l i=false):left (upd l i true) n+1=left l n:=by
 induction n with
 | zero=>omega
 | succ n ih =>
  by_cases e:i=n
  ·subst e
   have:upd l i true i=true:=by rw [ae,if_pos rfl]
   simp [left,Hg l i i (Nat.le_refl _),this,hi]
  ·have:upd l i true n=l n:=by rw [ae,if_neg tO]
   have:=ih tO
   simp only [left, *]
   omega
theorem EF (l:Nat→Bool) (n:Nat) (h:left l n=0):∀ i,i<n→l i=true:=by
 induction n with
 | zero=>intro i hi;omega
 | succ n ih =>
  intro i hi
  simp only [left] at h
  by_cases e:i=n
  ·subst e
   cases hl:l i with
   | true=>rfl
   | false=>simp [hl] at h
  ·exact ih tO i tO
def nD (T:List (List Nat)):Nat→List Oper→Bool
 | _,[]=>true
 | i,o :: os=>(o.after.toList.all fun e=>!Region.binds .any e || Nat.blt e.on i) && ((T.getD i []).all fun t=>o.after.toList.any fun e=>Region.binds .any e && (Nat.beq e.on t || (T.getD e.on []).any fun u=>Nat.beq u t)) && nD T (i+1) os
theorem BD {T:List (List Nat)} {j:Nat} {o:Oper}:∀ (os:List Oper) (i:Nat),nD T i os=true→os[j]?=some o →
  (∀ e ∈ o.after,Region.binds .any e=true→e.on<i+j)∧∀ t ∈ T.getD (i+j) [],∃ e ∈ o.after,Region.binds .any e=true∧(e.on=t∨t ∈ T.getD e.on []):=by
 induction j with
 | zero =>
  intro os i h ho
  cases os with
  | nil=>simp at ho
  | cons p os =>
   simp at ho
   subst ho
   simp only [nD,Bool.and_eq_true] at h
   obtain ⟨⟨h1,h2⟩,_⟩:=h
   refine ⟨fun e he hb=>?_,fun t ht=>?_⟩
   ·have:=List.all_eq_true.1 h1 e (by simpa using he)
    simp [hb] at this
    simpa [Nat.blt_eq] using this
   ·have:=List.all_eq_true.1 h2 t (by simpa using ht)
    obtain ⟨e,he,h3⟩:=List.any_eq_true.1 this
    simp only [Bool.and_eq_true,Bool.or_eq_true] at h3
    refine ⟨e,by simpa using he,h3.1,?_⟩
    rcases h3.2 with h4|h4
    ·exact .inl (Nat.eq_of_beq_eq_true h4)
    ·obtain ⟨u,hu,h5⟩:=List.any_eq_true.1 h4
     exact .inr ((Nat.eq_of_beq_eq_true h5) ▸ hu)
 | succ j ih =>
  intro os i h ho
  cases os with
  | nil=>simp at ho
  | cons p os =>
   simp at ho
   simp only [nD,Bool.and_eq_true] at h
   have:=ih os (i+1) h.2 ho
   rw [show i+(j+1)=i+1+j by omega]
   exact this
section
variable {P:Program} {ops:Array Oper} {Q:Exit→Act→World→Prop}
def Hm (P:Program) (ops:Array Oper) (Q:Exit→Act→World→Prop) (T:List (List Nat)) (F:(Nat→Value)→Act) (Φ:(Nat→Bool)→(Nat→Value)→World→Prop) (i:Nat) (o:Oper):Prop :=
 ∀ (l:Nat→Bool) (s:Nat→Value) (w:World),l i=false→(∀ t,(T.getD i []).any (Nat.beq t)=true→l t=true)→(∀ j,(T.getD j []).any (Nat.beq i)=true→l j=false)→Hid (Φ l s w) →
  ∀ K':Act→World→Prop,Shut (∀ s' a' w',a'=F s'→Φ (upd l i true) s' w'→K' a' w')→if Region.wanted o (yielded ops (F s).tmps)=true then Oper.wp P o (F s) w K' Q else K' ((F s).put o.dst undef) w
def Steps (P:Program) (ops:Array Oper) (Q:Exit→Act→World→Prop) (T:List (List Nat)) (F:(Nat→Value)→Act) (Φ:(Nat→Bool)→(Nat→Value)→World→Prop):Nat→List Oper→Prop
 | _,[]=>True
 | i,o :: os=>Hm P ops Q T F Φ i o∧Steps P ops Q T F Φ (i+1) os
theorem Steps.at {T:List (List Nat)} {F:(Nat→Value)→Act} {Φ:(Nat→Bool)→(Nat→Value)→World→Prop} {j:Nat} {o:Oper}:∀ (os:List Oper) (i:Nat),Steps P ops Q T F Φ i os→os[j]?=some o→Hm P ops Q T F Φ (i+j) o:=by
 induction j with
 | zero =>
  intro os i h ho
  cases os with
  | nil=>simp at ho
  | cons p os=>simp at ho;subst ho;exact h.1
 | succ j ih =>
  intro os i h ho
  cases os with
  | nil=>simp at ho
  | cons p os =>
   simp at ho
   have:=ih os (i+1) h.2 ho
   rw [show i+(j+1)=i+1+j by omega]
   exact this
theorem any_beq {L:List Nat} {t:Nat}:L.any (Nat.beq t)=true↔t ∈ L:=by
 rw [List.any_eq_true]
 constructor
 ·rintro ⟨x,hx,he⟩
  exact (Nat.eq_of_beq_eq_true he) ▸ hx
 ·intro h
  exact ⟨t,h,by simp⟩
theorem EH {T:List (List Nat)} {F:(Nat→Value)→Act} {Φ:(Nat→Bool)→(Nat→Value)→World→Prop} (hT:nD T 0 ops.toList=true) (OE:Nat.ble T.length ops.size=true) (steps:Steps P ops Q T F Φ 0 ops.toList)
  (fin:∀ (l:Nat→Bool) (s:Nat→Value) (w:World),(∀ i,Nat.blt i ops.size=true→l i=true)→Φ l s w→Q .normal (F s) w) :
  ∀ (fuel:Nat) (listed:Array Bool) (l:Nat→Bool) (s:Nat→Value) (w:World),listed.size=ops.size→(∀ i,i<ops.size→listed[i]?=some (l i))→left l ops.size≤fuel →
   (∀ i e o,ops[i]?=some o→e ∈ o.after→Region.binds .any e=true→l i=true→l e.on=true)→Φ l s w→wpAny P .any ops Q fuel listed (F s) w:=by
 have W:∀ i o,ops[i]?=some o→(∀ e ∈ o.after,Region.binds .any e=true→e.on<i)∧∀ t ∈ T.getD i [],∃ e ∈ o.after,Region.binds .any e=true∧(e.on=t∨t ∈ T.getD e.on []):=by
  intro i o ho
  have:=BD (j:=i) ops.toList 0 hT (by simpa using ho)
  simpa using this
 have up:∀ (l:Nat→Bool),(∀ i e o,ops[i]?=some o→e ∈ o.after→Region.binds .any e=true→l i=true→l e.on=true)→∀ n i,i<n→i<ops.size→l i=true→∀ t ∈ T.getD i [],l t=true:=by
  intro l hc n
  induction n with
  | zero=>intro i hi;omega
  | succ n ih =>
   intro i hi hs hl t ht
   have ho:ops[i]?=some ops[i]:=by simp [hs]
   obtain ⟨e,he,hb,h3⟩:=(W i _ ho).2 t ht
   have h1:=hc i e _ ho he hb hl
   have h2:=(W i _ ho).1 e he hb
   rcases h3 with h3|h3
   ·exact h3 ▸ h1
   ·exact ih e.on tO tO h1 t h3
 have all:∀ (listed:Array Bool) (l:Nat→Bool),listed.size=ops.size→(∀ i,i<ops.size→listed[i]?=some (l i))→Region.ready .any ops listed=[]→∀ n i,i<n→i<ops.size→l i=true:=by
  intro listed l hsz hl hr n
  induction n with
  | zero=>intro i hi;omega
  | succ n ih =>
   intro i hi hs
   cases Nk:l i with
   | true=>rfl
   | false =>
    have ho:ops[i]?=some ops[i]:=by simp [hs]
    have hm:i ∈ Region.ready .any ops listed:=mem_ready.2 ⟨by simp [Array.getD_eq_getD_getElem?,hl i hs,Nk],_,ho,fun e he hb=>by
     have h2:=(W i _ ho).1 e he hb
     have h3:=ih e.on tO tO
     simp [Array.getD_eq_getD_getElem?,hl e.on tO,h3]⟩
    rw [hr] at hm
    cases hm
 intro fuel
 induction fuel with
 | zero =>
  intro listed l s w hsz hl hf hc hΦ
  have h0:=EF l ops.size tO
  refine ⟨?_,fin l s w (fun i hi=>h0 i (by simpa [Nat.blt_eq] using hi)) hΦ⟩
  apply List.eq_nil_iff_forall_not_mem.2
  intro i hi
  obtain ⟨h1,o,ho,_⟩:=mem_ready.1 hi
  have hs:i<ops.size:=(Array.getElem?_eq_some_iff.1 ho).1
  rw [Array.getD_eq_getD_getElem?,hl i hs,h0 i hs] at h1
  cases h1
 | succ fuel ih =>
  intro listed l s w hsz hl hf hc hΦ
  refine ⟨fun hr=>fin l s w (fun i hi=>all listed l hsz hl hr (i+1) i tO (by simpa [Nat.blt_eq] using hi)) hΦ,fun i hi=>?_⟩
  obtain ⟨h1,o,ho,hall⟩:=mem_ready.1 hi
  have hs:i<ops.size:=(Array.getElem?_eq_some_iff.1 ho).1
  have Nk:l i=false:=by
   rw [Array.getD_eq_getD_getElem?,hl i hs] at h1
   simpa using h1
  have hd:∀ e ∈ o.after,Region.binds .any e=true→l e.on=true:=fun e he hb=>by
   have h2:=hall e he hb
   have h3:=(W i o ho).1 e he hb
   rw [Array.getD_eq_getD_getElem?,hl e.on tO] at h2
   simpa using h2
  have hst:=Steps.at (j:=i) ops.toList 0 steps (by simpa using ho)
  rw [Nat.zero_add] at hst
  refine wpOp_step ho fun K' hK=>hst l s w Nk (fun t ht=>?_) (fun j hj=>?_) hΦ K' (fun s' a' w' ea hΦ'=>hK _ _ ?_)
  ·obtain ⟨e,he,hb,h3⟩:=(W i o ho).2 t (any_beq.1 ht)
   rcases h3 with h3|h3
   ·exact h3 ▸ hd e he hb
   ·exact up l hc (e.on+1) e.on tO (by have:=(W i o ho).1 e he hb;omega) (hd e he hb) t h3
  ·have hj2:=any_beq.1 hj
   cases hlj:l j with
   | false=>rfl
   | true =>
    by_cases hjs:j<ops.size
    ·have:=up l hc (j+1) j tO hjs hlj i hj2
     rw [Nk] at this
     cases this
    ·have h5:=Nat.le_of_ble_eq_true OE
     simp [List.getD_eq_getElem?_getD,List.getElem?_eq_none (show T.length≤j by omega)] at hj2
  ·subst ea
   refine ih _ (upd l i true) s' w' (by simpa using hsz) (fun k hk=>?_) (by have:=Hl l i ops.size hs Nk;omega) (fun k e o2 ho2 he hb hk=>?_) hΦ'
   ·rw [Array.getElem?_setIfInBounds,ae,hl k hk]
    by_cases e:i=k
    ·subst e;simp [hsz,hs]
    ·have e2:¬ k=i:=fun x=>e x.symm
     simp [e,e2]
   ·rw [ae] at hk ⊢
    by_cases e1:e.on=i
    ·simp [e1]
    ·rw [if_neg e1]
     by_cases e2:k=i
     ·subst e2
      rw [ho] at ho2
      obtain rfl:=Option.some.inj ho2
      exact hd e he hb
     ·rw [if_neg e2] at hk
      exact hc k e o2 ho2 he hb hk
theorem bJ {id:Nat} {a:Act} {w:World} (T:List (List Nat)) (ds:List Nat) (Φ:(Nat→Bool)→(Nat→Value)→World→Prop) {F:(Nat→Value)→Act} (hm:P.follows .mixedOrders=true) (hT:nD T 0 ops.toList=true) (OE:Nat.ble T.length ops.size=true)
  (hF:∀ s,fill a ds s=F s) (h0:∀ s,Φ (fun _=>false) s w.drew) (steps:Steps P ops Q T F Φ 0 ops.toList)
  (fin:∀ (l:Nat→Bool) (s:Nat→Value) (w:World),(∀ i,Nat.blt i ops.size=true→l i=true)→Φ l s w→Q .normal (F s) w):(Code.region id ops true).wp P Q a w:=by
 refine wp_region_any hm ?_
 have:=EH hT OE steps fin ops.size (Array.replicate ops.size false) (fun _=>false) (fun k=>a.tmps.getD k undef) w.drew (by simp) (fun i hi=>by simp [hi]) (by
  generalize ops.size=n
  induction n with
  | zero=>simp [left]
  | succ n ih=>simp [left];exact ih) (fun i e o _ _ _ h=>by cases h) (h0 _)
 rw [← hF,EE] at this
 exact this
end
end
section
open Go.RowKit
variable {w w':World} {v:Value} {lo b:Nat} {x y ys:Array Value} {T T':TypeId}
theorem bE (w:World) (o:Obj):Below w.heap.size w (w.alloc o):=(Below.refl _ _).alloc (Nat.le_refl _) o
theorem fC (h:hp w b=some (.cells x T)) (hb:Below w.heap.size w w'):hp w' b=some (.cells x T):=(mG hb (bO h).2.2).trans h
def iI (w:World) (v:Value) (lo:Nat) (x:Array Value) (T:TypeId):Prop:=∃ b,v=.pointer (some ⟨b,0,none⟩)∧lo≤b∧hp w b=some (.cells x T)
theorem iI.below (h:iI w v lo x T) (hb:Below w.heap.size w w'):iI w' v lo x T:=by
 obtain ⟨b,e,hl,hz⟩:=h
 exact ⟨b,e,hl,fC hz hb⟩
theorem iI.new (h:lo≤w.heap.size):iI (w.alloc (.cells x T)) (.pointer (some ⟨w.heap.size,0,none⟩)) lo x T :=
 ⟨_,rfl,h,heap_alloc_new w _⟩
theorem lL (hz:hp w b=some (.cells y T')) {b':Nat} (h:hp w b'=some (.cells x T)) (hne:T≠T'):hp (bI w b ys) b'=some (.cells x T):=by
 have:b'≠b:=by
  rintro rfl
  rw [hz] at h
  simp at h
  exact hne h.2.symm
 exact (aL this).trans h
theorem gQ (hz:hp w b=some (.cells y T)):hp (bI w b ys) b=some (.cells ys T):=by rw [qQ,hz];rfl
theorem iI.far (h:iI w v lo x T) (hz:hp w b=some (.cells y T')) (hne:T≠T'):iI (bI w b ys) v lo x T:=by
 obtain ⟨b',e,hl,h⟩:=h
 exact ⟨b',e,hl,lL hz h hne⟩
theorem dG {e:TypeId} {k m:Nat} {u:Value} {xs:List Value} (h:w.ownsRow lo e k u m xs) (hz:hp w b=some (.cells y T')) (hne:e≠T'):(bI w b ys).ownsRow lo e k u m xs:=by
 refine fI h fun e2=>?_
 rcases h.2 with ⟨rfl,_⟩|⟨g,cap,cur,rfl,_,hg,_⟩
 ·cases e2
 ·simp [Value.ownBlock] at e2
  subst e2
  unfold hp at hz
  rw [hz] at hg
  simp at hg
  exact hne hg.2.symm
theorem rf {e:TypeId} {k m:Nat} {u:Value} {xs:List Value} (h:w.ownsRow lo e k u m xs) (hz:hp w b=some (.cells y T')) (hne:e≠T'):∀ i,u.ownBlock=some i→i≠b:=by
 rintro i e2 rfl
 rcases h.2 with ⟨rfl,_⟩|⟨g,cap,cur,rfl,_,hg,_⟩
 ·cases e2
 ·simp [Value.ownBlock] at e2
  subst e2
  unfold hp at hz
  rw [hz] at hg
  simp at hg
  exact hne hg.2.symm
theorem Row.belowS {n k:Nat} {f:Nat→Nat→Value} (h:Row w b T n k f) (hb:Below w.heap.size w w'):Row w' b T n k f:=by
 obtain ⟨c,h1,h2⟩:=h
 exact ⟨c,(hb.block b (Array.getElem?_eq_some_iff.1 h1).1).trans h1,h2⟩
end
section
def dw (h:Ha) (x:C3):Ha:={ h with seen:=x.s,wait:=x.t,out:=x.e }
def gz (c:Ch) (h:Ha):Ha × Bool :=
 let x:=cellAt c h.cell
 let y:=dw h x
 if x.s == 0 then ({ y with pos:=11 },true) else if x.s == 1 then ({ y with pos:=11 },true) else if x.s == 2 then ({ y with pos:=12 },true)
 else if x.s == 3 then ({ y with pos:=12 },true) else if x.s == 9 then (anew y,true) else (y,false)
def dI (h:Ha) (t:Int):Ha:={ h with nxt:=t,pos:=16 }
def gL (c:Ch) (h:Ha) (to wt:Int) (thn:Ha):St :=
 if bn c h.cell h.seen to wt then done (bf c h.cell h.seen to wt) thn else done (bf c h.cell h.seen to wt) { h with pos:=10 }
def qf (h:Ha):Ha:=if h.pos == 16 then { h with nxt:=1 } else h
def fu (c:Ch) (h:Ha):St :=
 if h.seen == 2 then gL c h 7 0 (dI h 0) else if h.seen == 3 then gL c h 5 h.wait { h with pos:=13 }
 else if h.seen != 0 && h.seen != 1 then nothing else if h.cell<h.come then gL c h 8 0 (dI h 2)
 else done (eP c h 4 16 10).1 (qf (eP c h 4 16 10).2)
def vC (c:Ch) (h:Ha):St:=if c.got == 40 then done c (aS 4 0) else done { c with got:=c.got+1 } { h with cell:=c.got,pos:=10 }
def vD (c:Ch) (h:Ha):St:=if (cellAt c h.cell).s == 6 then (c,h,false) else if (gz c h).2 then done c (gz c h).1 else nothing
def vE (c:Ch) (h:Ha):St:=done (dD c h.wait 1) { h with pos:=if eU c h.wait 1 then 14 else 15 }
def aP (c:Ch) (h:Ha):St :=
 if aX c h 9 15 2 then
  if h.pos == 9 then vC c h else if h.pos == 10 then vD c h else if h.pos == 11 then done c { h with come:=c.sent,pos:=12 }
  else if h.pos == 12 then fu c h else if h.pos == 13 then vE c h
  else if h.pos == 14 then done (bH c h.cell 7) (dI h 0) else done (bH c h.cell 9) (anew h)
 else nothing
def df (h:Ha):Ha:=if h.nxt == 0 then aS 2 h.out else if h.nxt == 1 then { h with pos:=23 } else anew h
def jG (c:Ch) (h:Ha):Ha :=
 let x:=cellAt c h.grow
 let y:=bL h x
 if x.s == 0 then { y with pos:=19 } else if x.s == 3 then { y with pos:=19 } else if x.s == 9 then { y with pos:=16 } else df y
def jH (c:Ch) (h:Ha) (to wt:Int) (thn:Ha):St :=
 if bn c h.grow h.seen to wt then done (bf c h.grow h.seen to wt) thn else done (bf c h.grow h.seen to wt) { h with pos:=18 }
def fK (c:Ch) (h:Ha):St:=if h.seen == 3 then jH c h 6 h.wait { h with pos:=20 } else if h.seen == 0 then jH c h 1 0 (df h) else nothing
def fT (c:Ch) (h:Ha):Ch × Ha:=if c.cap == 0 || c.fin == 40 then (c,df h) else ({ c with fin:=c.fin+1 },{ h with grow:=c.fin,pos:=17 })
def kg (c:Ch) (h:Ha):St:=if (cellAt c h.grow).s == 5 then (c,h,false) else done c (jG c h)
def pE (c:Ch) (h:Ha):St:=done (dD c h.wait 1) { h with pos:=if eU c h.wait 1 then 21 else 22 }
def aY (c:Ch) (h:Ha):St :=
 if aX c h 16 22 2 then
  if h.pos == 16 then done (fT c h).1 (fT c h).2 else if h.pos == 17 then (if c.sent≤h.grow then done c (df h) else done c { h with pos:=18 })
  else if h.pos == 18 then kg c h else if h.pos == 19 then fK c h else if h.pos == 20 then pE c h
  else if h.pos == 21 then done (bH c h.grow 2) (df h) else done (bH c h.grow 9) { h with pos:=16 }
 else nothing
def iJ (c:Ch) (h:Ha):St :=
 if dX c h.mine == 0 then (c,h,false) else if dX c h.mine == 2 then done c { h with pos:=25 }
 else if h.code == 1 then done c (aS 1 0) else done c { h with pos:=24 }
def vF (h:Ha):Int:=if h.code == 1 then 9 else 10
def bC (c:Ch) (h:Ha):St :=
 if aX c h 23 25 0 && (jo c h.mine && !(h.pos == 24 && h.code == 1)) then
  if h.pos == 23 then iJ c h else if h.pos == 24 then done c (aS 2 (cellAt c h.cell).e) else done (bH c h.cell (vF h)) (aS 3 0)
 else nothing
def gM (c:Ch) (h:Ha):St :=
 if dL h.pos 1 8 then bK c h else if dL h.pos 9 15 then aP c h else if dL h.pos 16 22 then aY c h else bC c h
end
end Go.Proofs.YtffhjmepfojhnaaGreat
