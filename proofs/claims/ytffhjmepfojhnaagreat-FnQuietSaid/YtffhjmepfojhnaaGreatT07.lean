/-
  The reference model's writing into a cell of a channel of one's own; the lists are the call's own.
-/
import Derived.Test.YtffhjmepfojhnaaGreatT05
import Derived.Test.YtffhjmepfojhnaaGreatT04
import Derived.Test.YtffhjmepfojhnaaGreatT03
import Derived.Deep.AppendLies
import Derived.Test.YtffhjmepfojhnaaGreatT01
set_option maxRecDepth 100000
set_option maxHeartbeats 1000000
set_option linter.unusedSimpArgs false
set_option linter.unusedVariables false
namespace Go.Proofs.YtffhjmepfojhnaaGreat
open _root_.Go.Proofs.Tryz
section
open Go.RowKit
theorem aF.open1 {w:World} {lo:Nat} {v:Value} {cs:List C3} (h:aF w lo v cs) {i:Nat} (I:i<cs.length) :
  ∃ g cap,v=.slice (some ⟨g,0,none⟩) cs.length cap∧lo≤g∧g<w.heap.size∧(∀ j,j<3→w.cell? ⟨g,i*3+j,none⟩=some ((cs.getD i ⟨0,0,0⟩).val j))∧∀ o,w.frozen? ⟨g,o,none⟩=false:=by
 have h2:=h;rcases h.2 with ⟨_,L⟩|⟨g,cap,G,rfl,K,F,_⟩
 ·omega
 ·refine ⟨g,cap,rfl,K,(Array.getElem?_eq_some_iff.1 F).1,fun j J=>?_,fun o=>by simp [World.frozen?,F]⟩
  have:=h2.cells (g:=g) rfl (i*3+j) _ (kR cs i j I J);have H:(⟨g,0,none⟩:Addr).add (i*3+j)=⟨g,i*3+j,none⟩:=by generalize i*3+j=m;by_cases e:m=0 <;> simp [Addr.add,e]
  rw [H] at this;exact this
theorem aF.set {w:World} {lo g cap:Nat} {cs:List C3} (h:aF w lo (.slice (some ⟨g,0,none⟩) cs.length cap) cs) {i:Nat} (F:i<cs.length) (x:C3) :
  aF (((w.setCell ⟨g,i*3,none⟩ (.int .i64 x.s)).setCell ⟨g,i*3+1,none⟩ (.int .i64 x.e)).setCell ⟨g,i*3+2,none⟩ (.int .i64 x.t)) lo (.slice (some ⟨g,0,none⟩) cs.length cap) (cs.set i x):=by
 have h1:=kJ h (i*3) (by rw [lH];omega) (.int .i64 x.s);have h2:=kJ h1 (i*3+1) (by rw [List.length_set,lH];omega) (.int .i64 x.e);have h3:=kJ h2 (i*3+2) (by rw [List.length_set,List.length_set,lH];omega) (.int .i64 x.t);unfold aF;rw [xI,List.length_set];exact h3
theorem aF.setS {w:World} {lo g cap:Nat} {cs:List C3} (h:aF w lo (.slice (some ⟨g,0,none⟩) cs.length cap) cs) {i:Nat} (I:i<cs.length) (s:Int) :
  aF (w.setCell ⟨g,i*3,none⟩ (.int .i64 s)) lo (.slice (some ⟨g,0,none⟩) cs.length cap) (cs.set i { cs.getD i ⟨0,0,0⟩ with s:=s }):=by
 have h1:=kJ h (i*3) (by rw [lH];omega) (.int .i64 s);have G:=kR cs i 1 I tO;have H:=kR cs i 2 I tO;simp only [jy,C3.val] at G H;have F:∀ (l:List Value) (j:Nat) (x:Value),l[j]?=some x→l.set j x=l:=fun l j x h=>by
  apply List.ext_getElem?;intro n;rw [List.getElem?_set];by_cases e:j=n
  ·subst e;simp only [if_true];rw [h];simp;exact (List.getElem?_eq_some_iff.1 h).1
  ·rw [if_neg e]
 unfold aF;rw [xI,List.length_set];simp only;rw [F _ (i*3+1) _ (by rw [List.getElem?_set_ne tO];exact G),F _ (i*3+2) _ (by rw [List.getElem?_set_ne tO];exact H)];exact h1
theorem lL (c:Ch) (i:Nat) (F:Int):(bZ c i F).cells=c.cells.set i { c.cells.getD i ⟨0,0,0⟩ with s:=F }:=by simp [bZ,setAt,cellAt]
theorem Gc (c:Ch) (i:Nat) (I:Int) (v1 v2:Value) (lo:Nat) (w:World) (h1:aF w lo v1 c.cells) (h2:aI w lo v2 c.words) (M:i<c.cells.length) :
  Calls prog 203 #[.agg #[c.cap,c.sent,c.got,c.fin,v1,v2],.int .i64 i,.int .i64 I] w fun r w'=>r=.returned (.agg #[c.cap,c.sent,c.got,c.fin,v1,v2])∧aF w' lo v1 (bZ c i I).cells∧aI w' lo v2 c.words∧w.grownBy w' v1.ownBlock:=by
 have O:=aA h2;have a1:=h1.ne h2;obtain ⟨b,q,rfl,_⟩:=h2.seg;obtain ⟨g,cap,rfl,Z,a0,F,U⟩:=h1.open1 M;have N:=aA h1;have c0:=F 0 tO;simp only [C3.val,Nat.add_zero] at c0;have X:(0:Int)≤(i:Int):=tO;have Y:(i:Int)<(c.cells.length:Int):=tO;have V:w.heap.size≠g:=tO;have J:w.heap.size+1≠g:=tO;have K:g≠w.heap.size:=tO;have L:g≠w.heap.size+1:=tO;generalize T:c.cells.getD i ⟨0,0,0⟩=x at c0;clear h1 h2 F;go_enter func203,ntmps203
 go_wp2;have H:=N.out;have G:=O.out;have R:=aF.setS H M I;rw [lL];refine bodyPost_ret (v:=.agg #[c.cap,c.sent,c.got,c.fin,.slice (some ⟨g,0,none⟩) c.cells cap,.slice b c.words q]) (by simp [results,results203,go_sem, *]) rfl ⟨rfl,?_,?_,?_⟩
 ·exact zO R H
 ·(repeat first|with_reducible exact G|with_reducible refine xG ?_ _|with_reducible refine wM ?_|((with_reducible first|refine aV ?_ ?_ _|refine fC ?_ ?_);rotate_left;focus first|(refine own_ne G ?_;(try dsimp only);omega)|(refine dN G ?_;(try dsimp only);omega)|exact fun h=>aF.ne H G _ rfl h))
 ·show Gr g w _
  (repeat (first|with_reducible assumption|with_reducible exact gR _ _|with_reducible refine gA ?_|with_reducible refine gD ?_|with_reducible refine gS ?_ (.inl rfl)|((with_reducible refine Wu ?_ (.inr ?_));rotate_left;(focus ((try dsimp only);(try simp);(try omega))))|((with_reducible refine gS ?_ (.inr ?_));rotate_left;(focus ((try dsimp only);(try simp);(try omega))))))
theorem yK (c:Ch) (i:Nat) (f t v:Int):(bU c i f t v).cells=c.cells.set i (mF (c.cells.getD i ⟨0,0,0⟩) f t v):=by simp [bU,setAt,cellAt]
theorem Dh (c:Ch) (i:Nat) (f t v:Int):bB c i f t v=vW (c.cells.getD i ⟨0,0,0⟩) f t v:=by simp [bB,cellAt]
theorem Ja (c:Ch) (i:Nat) (f t v:Int) (v1 v2:Value) (lo:Nat) (w:World) (h1:aF w lo v1 c.cells) (h2:aI w lo v2 c.words) (hi:i<c.cells.length) :
  Calls prog 214 #[.agg #[c.cap,c.sent,c.got,c.fin,v1,v2],.int .i64 i,.int .i64 f,.int .i64 t,.int .i64 v] w fun r w'=>r=.returned (.tuple #[.agg #[c.cap,c.sent,c.got,c.fin,v1,v2],.bool (bB c i f t v)])∧aF w' lo v1 (bU c i f t v).cells∧aI w' lo v2 c.words∧w.grownBy w' v1.ownBlock:=by
 have O2:=aA h2;have ad:=h1.ne h2;obtain ⟨b,q,rfl,_⟩:=h2.seg;obtain ⟨g,cap,rfl,ac,K,H,a7⟩:=h1.open1 hi;have O1:=aA h1;have c0:=H 0 tO;have c1:=H 1 tO;have c2:=H 2 tO;simp only [C3.val,Nat.add_zero] at c0 c1 c2;have aa:(0:Int)≤(i:Int):=tO;have ab:(i:Int)<(c.cells.length:Int):=tO;have a9:w.heap.size≠g:=tO;have a1:w.heap.size+1≠g:=tO;have a2:g≠w.heap.size:=tO;have a3:g≠w.heap.size+1:=tO;rw [yK,Dh];unfold vW mF
 generalize T:c.cells.getD i ⟨0,0,0⟩=x at c0 c1 c2;clear h1 h2 H T;go_enter func214,ntmps214;go_wp2_with fail;refine aK w zB fun Z=>?_;refine (FL _ _ _ f t v _).mono ?_;rintro _ I ⟨hr,F⟩;have G:Below w w I:=bT Z F;have L:=F.size;(try simp at L);have zz:=And.intro (fun o=>F.cell (p:=⟨w+1,o,none⟩) tS) <| And.intro (fun o=>F.frozen (p:=⟨w+1,o,none⟩) tS) <| And.intro (fun o=>F.cell (p:=⟨w,o,none⟩) tS) <| fun o=>F.frozen (p:=⟨w,o,none⟩) tS;(try simp [go_sem] at zz);(try clear N J);(try clear X R);obtain ⟨N,J,X,R⟩:=zz;(try clear M);have M:w+1<I.heap.size:=tO;(try clear U);have U:w<I.heap.size:=tO;have a0:Below w w I:=G;clear F Z
 unfold yA at hr;subst hr;have V:=O1.out;have O:=O2.out;have p1:=own_below V G;have p2:=own_below O G;have d1:=fun o=>(G.cell (p:=⟨g,o,none⟩) K)
 have d2:=fun o=>(G.frozen (p:=⟨g,o,none⟩) K)
 have a4:g<I.heap.size:=tO;have a5:I.heap.size≠g:=tO;have a6:g≠I.heap.size:=tO;have Y:=aF.set p1 hi (mF x f t v);simp only [mF] at Y;go_wp2;refine bodyPost_ret (v:=.tuple #[.agg #[c.cap,c.sent,c.got,c.fin,.slice (some ⟨g,0,none⟩) c.cells cap,.slice b c.words q],.bool (kP x.s x.e x.t f t v)]) (by simp [results,results214,go_sem, *]) rfl ⟨rfl,?_,?_,?_⟩
 ·exact zO Y V
 ·(repeat first|with_reducible exact p2|with_reducible refine xG ?_ _|with_reducible refine wM ?_|((with_reducible first|refine aV ?_ ?_ _|refine fC ?_ ?_);rotate_left;focus first|(refine own_ne O ?_;(try dsimp only);omega)|(refine dN O ?_;(try dsimp only);omega)|exact fun h=>aF.ne V O _ rfl h))
 ·have a8:Gr g w I:=zf G
  show Gr g w _
  (repeat (first|with_reducible assumption|with_reducible exact gR _ _|with_reducible refine gA ?_|with_reducible refine gD ?_|with_reducible refine gS ?_ (.inl rfl)|((with_reducible refine Wu ?_ (.inr ?_));rotate_left;(focus ((try dsimp only);(try simp);(try omega))))|((with_reducible refine gS ?_ (.inr ?_));rotate_left;(focus ((try dsimp only);(try simp);(try omega))))))
theorem Jb (a:Option Addr) (n p:Nat) (v:Int) (w:World) :
  Calls prog 118 #[.slice a n p,.int .i64 v] w fun r w'=>r=.returned (.func (.func 167) #[] #[.pointer (some ⟨w,0,none⟩),.pointer (some ⟨w+1,0,none⟩)])∧w'.cell? ⟨w,0,none⟩=some (.slice a n p)∧w'.cell? ⟨w+1,0,none⟩=some (.int .i64 v)∧Below w w w':=by
 go_enter func118,ntmps118
 go_wp2;go_ret;exact ⟨rfl,by simp [go_sem],by simp [go_sem],zB⟩
theorem Py (c:Ch) (v x:Int) (a b:Option Addr) (p q:Nat) (w:World) (h1:gG w w a c.cells) (z1:a=none→p=0) (h2:gI w w b c.words) (z2:b=none→q=0) (m1:c.cells.length≤1099511627776) (m2:c.words.length≤1099511627776) :
  Calls prog 68 #[.agg #[c.cap,c.sent,c.got,c.fin,.slice a c.cells p,.slice b c.words q],.int .i64 v,.int .i64 x] w fun r w' =>
   (∃ v1 v2,r=.returned (.tuple #[.agg #[.int .i64 (told c v x).cap,.int .i64 (told c v x).sent,.int .i64 (told c v x).got,.int .i64 (told c v x).fin,v1,v2],.bool (FJ c v x)])∧aF w' w v1 (told c v x).cells∧aI w' w v2 (told c v x).words)∧Below w w w':=by
 have H1:=aA h1;have H2:=aA h2;have Z1:=aA z1;have Z2:=aA z2;have n1:c.cells.length≤maxLen:=by unfold maxLen;omega
 have n2:c.words.length≤maxLen:=by unfold maxLen;omega
 clear h1 h2 z1 z2;by_cases hc:aN c=true
 ·obtain ⟨T,U⟩:=FK (v:=v) (x:=x) hc
  obtain ⟨f1,f2,f3,f4,f5⟩:=pU c v x;have E:=aA (And.intro T U);have FF:=aA (pU c v x);clear T U f1 f2 f3 f4 f5;go_enter func68,ntmps68;go_wp2_with fail;refine aK w zB fun J=>?_;refine (iY c a b p q _ (aT H1 J) (aT H2 J) n1 n2).mono ?_;rintro _ w1 ⟨rfl,F⟩;have a1:=bT J F;have L:=F.size;(try simp at L);have H:=And.intro (sJ F (b:=w+1)) <| sJ F (b:=w);(try simp [go_sem] at H);replace Y:=H;clear H F J
  rw [hc];go_wp2_with fail;refine aK w zB fun J=>?_;refine (rH c a b p q _ (aT H1 J) Z1.out (aT H2 J) Z2.out m1 m2).mono ?_;rintro _ R ⟨⟨v1,v2,rfl,O,M⟩,K⟩;have ad:=bT J K;have a3:=K.size;(try simp at a3);have H:=And.intro (sJ K (b:=w+1)) <| sJ K (b:=w);(first|simp [go_sem,Y] at H|simp [go_sem] at H|skip);replace Y:=H;clear H K J
  try simp at O M
  have O1:=aA O;have O2:=aA M;obtain ⟨va,vc,rfl,_⟩:=aF.seg O;obtain ⟨V,X,rfl,_⟩:=aI.seg M;clear O M;have O:=O1.out;have M:=O2.out;go_wp2_with fail;refine aK w zB fun J=>?_;refine aK R zB fun bk=>?_;refine (Jb _ _ _ _ _).mono ?_;rintro _ w3 ⟨rfl,d1,d2,G⟩;have ae:=bT J G;have a4:=G.size;(try simp at a4);have H:=And.intro (sJ G (b:=R)) <| And.intro (sJ G (b:=w+1)) <| sJ G (b:=w);(first|simp [go_sem,Y] at H|simp [go_sem] at H|skip);replace Y:=H;clear H;have N:=bT bk G;clear G J bk
  simp at d1 d2;have q1:=own_below O N;have q2:=own_below M N;have b2:=fun j (hj:(Value.slice V c.words X).ownBlock=some j)=>M.lt j hj
  have ah:some (w.heap.size+1)≠(Value.slice V c.words X).ownBlock:=fun e=>by have:=(b2 _ e.symm).1;omega
  have ai:some R.heap.size≠(Value.slice V c.words X).ownBlock:=fun e=>by have:=(b2 _ e.symm).2;omega
  have ag:some w.heap.size≠(Value.slice V c.words X).ownBlock:=fun e=>by have:=(b2 _ e.symm).1;omega
  go_wp2_with fail
  go_region_with (first|(refine (FI c v x (R+1) (R+1+1) (.slice V c.words X) w1 _ (zO q2 M) (by simpa [go_sem] using d1) (by simpa [go_sem] using d2) m2).mono ?_;rintro _ w4 ⟨rfl,p2,I⟩;have a5:=I.size;(try (simp at a5));have H:=And.intro (fun o=>I.cell_far ⟨R,o,none⟩ tS dM) <| And.intro (fun o=>I.frozen_far ⟨R,o,none⟩ tS dM) <| And.intro (fun o=>I.cell_far ⟨w+1,o,none⟩ tS dM) <| And.intro (fun o=>I.frozen_far ⟨w+1,o,none⟩ tS dM) <| And.intro (fun o=>I.cell_far ⟨w,o,none⟩ tS dM) <| fun o=>I.frozen_far ⟨w,o,none⟩ tS dM;(try simp [go_sem] at H);(try clear a8 Z);(try clear a9 a0);(try clear ac aa);obtain ⟨a8,Z,a9,a0,ac,aa⟩:=H;(try clear a6);have a6:R<w4.heap.size:=tO;(try clear a7);have a7:w+1<w4.heap.size:=tO;(try clear ab);have ab:w<w4.heap.size:=tO;have p1:=(World.ownsRow.drew q1).kept I (D9 q1 q2);have af:Below w w w4:=mO zB I tS (fun k hk=>by have:=(b2 k hk).1;omega)))
  all_goals go_wp2
  all_goals (obtain ⟨T,U⟩:=E.out;obtain ⟨f1,f2,f3,f4,f5⟩:=FF.out;rw [T,U,f1,f2,f3,f4,f5])
  all_goals (refine bodyPost_ret (v:=.tuple #[.agg #[c.cap,c.sent,c.got,c.fin,.slice va c.cells vc,.slice V c.words X],.bool (eG c v x)]) (by simp [results,results68,go_sem, *]) rfl ⟨⟨_,_,rfl,aL (lo:=w1) ?_ tO,aL (lo:=w1) ?_ tO⟩,zB⟩)
  all_goals (have P1:aF _ _ _ _:=p1)
  all_goals first|(repeat first|with_reducible exact p2|with_reducible refine xG ?_ _|with_reducible refine wM ?_|((with_reducible first|refine aV ?_ ?_ _|refine fC ?_ ?_);rotate_left;focus first|(refine own_ne M ?_;(try dsimp only);omega)|(refine dN M ?_;(try dsimp only);omega)))|skip
  all_goals first|(repeat first|with_reducible exact p1|with_reducible refine xG ?_ _|with_reducible refine wM ?_|((with_reducible first|refine aV ?_ ?_ _|refine fC ?_ ?_);rotate_left;focus first|(refine own_ne O ?_;(try dsimp only);omega)|(refine dN O ?_;(try dsimp only);omega)))|skip
 ·have a2:aN c=false:=by simpa using hc
  obtain ⟨T,U⟩:=RV (v:=v) (x:=x) a2;have E:=aA (And.intro T U);clear T U hc;go_enter func68,ntmps68;go_wp2_with fail;refine aK w zB fun J=>?_;refine (iY c a b p q _ (aT H1 J) (aT H2 J) n1 n2).mono ?_;rintro _ w1 ⟨rfl,F⟩;have a1:=bT J F;have L:=F.size;(try simp at L);have H:=And.intro (sJ F (b:=w+1)) <| sJ F (b:=w);(try simp [go_sem] at H);replace Y:=H;clear H F J
  rw [a2];go_wp2;rw [E.out.1,E.out.2];refine bodyPost_ret (v:=.tuple #[.agg #[Ch.zero.cap,Ch.zero.sent,Ch.zero.got,Ch.zero.fin,.slice none 0 0,.slice none 0 0],.bool false]) (by simp [results,results68,go_sem,Ch.zero, *]) rfl ⟨⟨_,_,rfl,World.ownsRow_nil _ _ _ _,World.ownsRow_nil _ _ _ _⟩,zB⟩
theorem Jc (s e t f n v:Int) (w:World):Calls prog 256 #[.agg #[.int .i64 s,.int .i64 e,.int .i64 t],.int .i64 f,.int .i64 n,.int .i64 v] w fun r w'=>yA s e t f n v r∧Below w w w':=by
 by_cases J:s=f
 ·subst J
  go_enter func256,ntmps256
  go_wp2_with (go_at_call 181;refine (vT _ _ _ _).mono ?_;rintro _ G ⟨rfl,F⟩;have I:Below w w G:=bT zB F;have H:=F.size;(try (simp at H));have:=fun o=>F.cell (p:=⟨w,o,none⟩) fK;have:=fun o=>F.frozen (p:=⟨w,o,none⟩) fK;have:=fun o=>F.cell (p:=⟨w+1,o,none⟩) fK;have:=fun o=>F.frozen (p:=⟨w+1,o,none⟩) fK;have:=fun o=>F.cell (p:=⟨w+1+1,o,none⟩) fK;have:=fun o=>F.frozen (p:=⟨w+1+1,o,none⟩) fK;have:w<G.heap.size:=tO;have:w≤G.heap.size:=tO;have:w≤G.heap.size+1:=tO;have:w+1<G.heap.size:=tO;have:w+1≤G.heap.size:=tO;have:w+1≤G.heap.size+1:=tO;have:w+1+1<G.heap.size:=tO;have:w+1+1≤G.heap.size:=tO;have:w+1+1≤G.heap.size+1:=tO)
  all_goals first
   | (refine bodyPost_ret (v:=.tuple #[.agg #[.int .i64 n,.int .i64 e,.int .i64 v],.bool true]) (by simp [results,results256,go_sem, *]) rfl ⟨CQ (Oy ‹_› ‹_›),zB⟩)
   | (refine bodyPost_ret (v:=.tuple #[.agg #[.int .i64 s,.int .i64 e,.int .i64 t],.bool false]) (by simp [results,results256,go_sem, *]) rfl ⟨wW (by first|exact D7 ‹_›|exact Ox ‹_›),zB⟩)
 ·go_enter func256,ntmps256
  go_wp2_with (go_at_call 181;refine (vT _ _ _ _).mono ?_;rintro _ G ⟨rfl,F⟩;have I:Below w w G:=bT zB F;have H:=F.size;(try (simp at H));have:=fun o=>F.cell (p:=⟨w,o,none⟩) fK;have:=fun o=>F.frozen (p:=⟨w,o,none⟩) fK;have:=fun o=>F.cell (p:=⟨w+1,o,none⟩) fK;have:=fun o=>F.frozen (p:=⟨w+1,o,none⟩) fK;have:=fun o=>F.cell (p:=⟨w+1+1,o,none⟩) fK;have:=fun o=>F.frozen (p:=⟨w+1+1,o,none⟩) fK;have:w<G.heap.size:=tO;have:w≤G.heap.size:=tO;have:w≤G.heap.size+1:=tO;have:w+1<G.heap.size:=tO;have:w+1≤G.heap.size:=tO;have:w+1≤G.heap.size+1:=tO;have:w+1+1<G.heap.size:=tO;have:w+1+1≤G.heap.size:=tO;have:w+1+1≤G.heap.size+1:=tO)
  all_goals (refine bodyPost_ret (v:=.tuple #[.agg #[.int .i64 s,.int .i64 e,.int .i64 t],.bool false]) (by simp [results,results256,go_sem, *]) rfl ⟨wW (by first|exact Ow ‹_›|exact D7 ‹_›),zB⟩)
theorem Jd (n:Nat) (who:Int) (B:Nat) (d:Option Addr) (r:Nat) (w:World) (G:w.cell? ⟨B,6,none⟩=some (.slice d n r)) (F:n≤1099511627776) :
  Calls prog 50 #[.pointer (some ⟨B,0,none⟩),.int .i64 who] w fun r w'=>r=.returned (.bool (gP n who))∧w=w':=by
 go_enter func50,ntmps50
 go_wp2_with (go_at_call 45;refine (jh _ _ _).mono ?_;rintro _ _ ⟨rfl,rfl⟩)
 go_ret;exact ⟨rfl,rfl⟩
end
section
structure Gh where
 lc:Nat→Lc
 sid:Nat→Int
 rid:Nat→Int
 el:Nat→Int
def Gp (g:Gh) (h:Ha) (n:Nat):Prop:=n<40∧h.cell=(n:Int)∧((h.nxt=0∧(g.lc n).rp=70∧h.out=g.el n)∨(h.nxt=1∧(g.lc n).rp=23∧h.mine=g.rid n)∨(h.nxt=2∧(g.lc n).rp=73))
inductive HP (g:Gh) (h:Ha):Prop
 | rest (p:h.pos=0)
 | s0 (k:h.code=1) (p:h.pos=1)
 | sL (n:Nat) (hn:n<40) (k:h.code=1) (c:h.cell=(n:Int)) (e:g.el n=h.elem) (p:h.pos=2) (q:(g.lc n).sp=2)
 | sK (n:Nat) (hn:n<40) (k:h.code=1) (c:h.cell=(n:Int)) (e:g.el n=h.elem) (p:h.pos=3) (q:(g.lc n).sp=3)
 | sE (n:Nat) (hn:n<40) (k:h.code=1) (c:h.cell=(n:Int)) (e:g.el n=h.elem) (p:h.pos=4) (q:(g.lc n).sp=4) (s:h.seen=0)
 | sM0 (n:Nat) (hn:n<40) (k:h.code=1) (c:h.cell=(n:Int)) (e:g.el n=h.elem) (p:h.pos=5) (q:(g.lc n).sp=5) (s:h.seen=0) (f:h.fin≤h.cell)
 | sM1 (n:Nat) (hn:n<40) (k:h.code=1) (c:h.cell=(n:Int)) (e:g.el n=h.elem) (p:h.pos=5) (q:(g.lc n).sp=15) (s:h.seen=0) (f:h.cell<h.fin)
 | sP1 (n:Nat) (hn:n<40) (k:h.code=1) (c:h.cell=(n:Int)) (e:g.el n=h.elem) (p:h.pos=6) (q:(g.lc n).sp=6) (s:h.seen=1)
 | sP0 (n:Nat) (hn:n<40) (k:h.code=1) (c:h.cell=(n:Int)) (e:g.el n=h.elem) (p:h.pos=6) (q:(g.lc n).sp=16) (s:h.seen=0) (f:h.fin≤h.cell) (f':h.come≤h.cell)
 | sPk (n:Nat) (hn:n<40) (k:h.code=1) (c:h.cell=(n:Int)) (e:g.el n=h.elem) (p:h.pos=6) (q:(g.lc n).sp=26) (s:h.seen=0) (f:h.cell<h.come∨h.cell<h.fin)
 | sC (n:Nat) (hn:n<40) (k:h.code=1) (c:h.cell=(n:Int)) (e:g.el n=h.elem) (p:h.pos=7) (q:(g.lc n).sp=7) (w:h.wait=g.rid n)
 | sD (n:Nat) (hn:n<40) (k:h.code=1) (c:h.cell=(n:Int)) (e:g.el n=h.elem) (p:h.pos=8) (q:(g.lc n).sp=8)
 | sW (n:Nat) (hn:n<40) (k:h.code=1) (c:h.cell=(n:Int)) (e:g.el n=h.elem) (p:h.pos=23) (q:(g.lc n).sp=23) (m:h.mine=g.sid n)
 | sm (n:Nat) (hn:n<40) (k:h.code=1) (c:h.cell=(n:Int)) (e:g.el n=h.elem) (p:h.pos=25) (q:(g.lc n).sp=25)
 | r0 (k:h.code=2) (p:h.pos=9)
 | rV (n:Nat) (hn:n<40) (k:h.code=2) (c:h.cell=(n:Int)) (p:h.pos=10) (q:(g.lc n).rp=10)
 | rS0 (n:Nat) (hn:n<40) (k:h.code=2) (c:h.cell=(n:Int)) (p:h.pos=11) (q:(g.lc n).rp=11) (s:h.seen=0)
 | rS1 (n:Nat) (hn:n<40) (k:h.code=2) (c:h.cell=(n:Int)) (p:h.pos=11) (q:(g.lc n).rp=21) (s:h.seen=1)
 | rT00 (n:Nat) (hn:n<40) (k:h.code=2) (c:h.cell=(n:Int)) (p:h.pos=12) (q:(g.lc n).rp=12) (s:h.seen=0) (f:h.come≤h.cell)
 | rT01 (n:Nat) (hn:n<40) (k:h.code=2) (c:h.cell=(n:Int)) (p:h.pos=12) (q:(g.lc n).rp=22) (s:h.seen=0) (f:h.cell<h.come)
 | rT10 (n:Nat) (hn:n<40) (k:h.code=2) (c:h.cell=(n:Int)) (p:h.pos=12) (q:(g.lc n).rp=32) (s:h.seen=1) (f:h.come≤h.cell)
 | rT11 (n:Nat) (hn:n<40) (k:h.code=2) (c:h.cell=(n:Int)) (p:h.pos=12) (q:(g.lc n).rp=42) (s:h.seen=1) (f:h.cell<h.come)
 | rT2 (n:Nat) (hn:n<40) (k:h.code=2) (c:h.cell=(n:Int)) (p:h.pos=12) (q:(g.lc n).rp=52) (s:h.seen=2) (o:h.out=g.el n)
 | rT3 (n:Nat) (hn:n<40) (k:h.code=2) (c:h.cell=(n:Int)) (p:h.pos=12) (q:(g.lc n).rp=62) (s:h.seen=3) (o:h.out=g.el n) (w:h.wait=g.sid n)
 | rw (n:Nat) (hn:n<40) (k:h.code=2) (c:h.cell=(n:Int)) (p:h.pos=13) (q:(g.lc n).rp=13) (o:h.out=g.el n) (w:h.wait=g.sid n)
 | rf (n:Nat) (hn:n<40) (k:h.code=2) (c:h.cell=(n:Int)) (p:h.pos=14) (q:(g.lc n).rp=14) (o:h.out=g.el n)
 | rl (n:Nat) (hn:n<40) (k:h.code=2) (c:h.cell=(n:Int)) (p:h.pos=15) (q:(g.lc n).rp=15)
 | rW (n:Nat) (hn:n<40) (k:h.code=2) (c:h.cell=(n:Int)) (p:h.pos=23) (q:(g.lc n).rp=23) (m:h.mine=g.rid n)
 | rF (n:Nat) (hn:n<40) (k:h.code=2) (c:h.cell=(n:Int)) (p:h.pos=24) (q:(g.lc n).rp=24) (m:h.mine=g.rid n)
 | rm (n:Nat) (hn:n<40) (k:h.code=2) (c:h.cell=(n:Int)) (p:h.pos=25) (q:(g.lc n).rp=25)
 | g (n:Nat) (k:h.code=2) (b:Gp g h n) (p:h.pos=16)
 | gF (n m:Nat) (k:h.code=2) (b:Gp g h n) (hm:m<40) (r:h.grow=(m:Int)) (p:h.pos=17) (q:(g.lc m).gp=17)
 | gX (n m:Nat) (k:h.code=2) (b:Gp g h n) (hm:m<40) (r:h.grow=(m:Int)) (p:h.pos=18) (q:(g.lc m).gp=18)
 | gU0 (n m:Nat) (k:h.code=2) (b:Gp g h n) (hm:m<40) (r:h.grow=(m:Int)) (p:h.pos=19) (q:(g.lc m).gp=19) (s:h.seen=0)
 | gU3 (n m:Nat) (k:h.code=2) (b:Gp g h n) (hm:m<40) (r:h.grow=(m:Int)) (p:h.pos=19) (q:(g.lc m).gp=29) (s:h.seen=3) (w:h.wait=g.sid m)
 | gR (n m:Nat) (k:h.code=2) (b:Gp g h n) (hm:m<40) (r:h.grow=(m:Int)) (p:h.pos=20) (q:(g.lc m).gp=20) (w:h.wait=g.sid m)
 | gk (n m:Nat) (k:h.code=2) (b:Gp g h n) (hm:m<40) (r:h.grow=(m:Int)) (p:h.pos=21) (q:(g.lc m).gp=21)
 | gl (n m:Nat) (k:h.code=2) (b:Gp g h n) (hm:m<40) (r:h.grow=(m:Int)) (p:h.pos=22) (q:(g.lc m).gp=22)
def sc (h:Ha):Option Nat:=if h.code=1∧2≤h.pos then some h.cell.toNat else none
def rc (h:Ha):Option Nat:=if h.code=2∧10≤h.pos then some h.cell.toNat else none
def gc (h:Ha):Option Nat:=if h.code=2∧17≤h.pos∧h.pos≤22 then some h.grow.toNat else none
theorem HP.frame {g g':Gh} {h:Ha} (H:HP g h)
  (hs:∀ n,sc h=some n→(g'.lc n).sp=(g.lc n).sp∧g'.el n=g.el n∧((g.lc n).sp=23→g'.sid n=g.sid n)∧((g.lc n).sp=7→g'.rid n=g.rid n))
  (hr:∀ n,rc h=some n→(g'.lc n).rp=(g.lc n).rp∧((g.lc n).rp=23∨(g.lc n).rp=24→g'.rid n=g.rid n)∧((g.lc n).rp=62∨(g.lc n).rp=13→g'.sid n=g.sid n)∧((g.lc n).rp=52∨(g.lc n).rp=62∨(g.lc n).rp=13∨(g.lc n).rp=14∨(g.lc n).rp=70→g'.el n=g.el n))
  (F:∀ n,gc h=some n→(g'.lc n).gp=(g.lc n).gp∧((g.lc n).gp=29∨(g.lc n).gp=20→g'.sid n=g.sid n)):HP g' h:=by
 have S:∀ n:Nat,h.code=1→h.cell=(n:Int)→2≤h.pos→sc h=some n:=fun n a b c=>by simp [sc,a,b,c]
 have R:∀ n:Nat,h.code=2→h.cell=(n:Int)→10≤h.pos→rc h=some n:=fun n a b c=>by simp [rc,a,b,c]
 have G:∀ n:Nat,h.code=2→h.grow=(n:Int)→17≤h.pos→h.pos≤22→gc h=some n:=fun n a b c d=>by simp [gc,a,b,c,d]
 have P:∀ n:Nat,h.code=2→10≤h.pos→Gp g h n→Gp g' h n:=by
  rintro n k p ⟨a,b,c⟩;obtain ⟨J,K,M,L⟩:=hr n (R n k b p);refine ⟨a,b,?_⟩;rcases c with ⟨I,c2,c3⟩|⟨I,c2,c3⟩|⟨I,c2⟩
  ·exact .inl ⟨I,J.trans c2,c3.trans (L (by simp [c2])).symm⟩
  ·exact .inr (.inl ⟨I,J.trans c2,c3.trans (K (by simp [c2])).symm⟩)
  ·exact .inr (.inr ⟨I,J.trans c2⟩)
 cases H with
 | rest p=>exact .rest p
 | s0 k p=>exact .s0 k p
 | r0 k p=>exact .r0 k p
 | sL n hn k c e p q=>obtain ⟨a,b,d,f⟩:=hs n (S n k c tO);exact .sL n hn k c (b.trans e) p (a.trans q)
 | sK n hn k c e p q=>obtain ⟨a,b,d,f⟩:=hs n (S n k c tO);exact .sK n hn k c (b.trans e) p (a.trans q)
 | sE n hn k c e p q s=>obtain ⟨a,b,d,f⟩:=hs n (S n k c tO);exact .sE n hn k c (b.trans e) p (a.trans q) s
 | sM0 n hn k c e p q s f1=>obtain ⟨a,b,d,f⟩:=hs n (S n k c tO);exact .sM0 n hn k c (b.trans e) p (a.trans q) s f1
 | sM1 n hn k c e p q s f1=>obtain ⟨a,b,d,f⟩:=hs n (S n k c tO);exact .sM1 n hn k c (b.trans e) p (a.trans q) s f1
 | sP1 n hn k c e p q s=>obtain ⟨a,b,d,f⟩:=hs n (S n k c tO);exact .sP1 n hn k c (b.trans e) p (a.trans q) s
 | sP0 n hn k c e p q s f1 f2=>obtain ⟨a,b,d,f⟩:=hs n (S n k c tO);exact .sP0 n hn k c (b.trans e) p (a.trans q) s f1 f2
 | sPk n hn k c e p q s f1=>obtain ⟨a,b,d,f⟩:=hs n (S n k c tO);exact .sPk n hn k c (b.trans e) p (a.trans q) s f1
 | sC n hn k c e p q w=>obtain ⟨a,b,d,f⟩:=hs n (S n k c tO);exact .sC n hn k c (b.trans e) p (a.trans q) (w.trans (f q).symm)
 | sD n hn k c e p q=>obtain ⟨a,b,d,f⟩:=hs n (S n k c tO);exact .sD n hn k c (b.trans e) p (a.trans q)
 | sW n hn k c e p q m=>obtain ⟨a,b,d,f⟩:=hs n (S n k c tO);exact .sW n hn k c (b.trans e) p (a.trans q) (m.trans (d q).symm)
 | sm n hn k c e p q=>obtain ⟨a,b,d,f⟩:=hs n (S n k c tO);exact .sm n hn k c (b.trans e) p (a.trans q)
 | rV n hn k c p q=>obtain ⟨a,b,d,f⟩:=hr n (R n k c tO);exact .rV n hn k c p (a.trans q)
 | rS0 n hn k c p q s=>obtain ⟨a,b,d,f⟩:=hr n (R n k c tO);exact .rS0 n hn k c p (a.trans q) s
 | rS1 n hn k c p q s=>obtain ⟨a,b,d,f⟩:=hr n (R n k c tO);exact .rS1 n hn k c p (a.trans q) s
 | rT00 n hn k c p q s f1=>obtain ⟨a,b,d,f⟩:=hr n (R n k c tO);exact .rT00 n hn k c p (a.trans q) s f1
 | rT01 n hn k c p q s f1=>obtain ⟨a,b,d,f⟩:=hr n (R n k c tO);exact .rT01 n hn k c p (a.trans q) s f1
 | rT10 n hn k c p q s f1=>obtain ⟨a,b,d,f⟩:=hr n (R n k c tO);exact .rT10 n hn k c p (a.trans q) s f1
 | rT11 n hn k c p q s f1=>obtain ⟨a,b,d,f⟩:=hr n (R n k c tO);exact .rT11 n hn k c p (a.trans q) s f1
 | rT2 n hn k c p q s o=>obtain ⟨a,b,d,f⟩:=hr n (R n k c tO);exact .rT2 n hn k c p (a.trans q) s (o.trans (f vz).symm)
 | rT3 n hn k c p q s o w=>obtain ⟨a,b,d,f⟩:=hr n (R n k c tO);exact .rT3 n hn k c p (a.trans q) s (o.trans (f vz).symm) (w.trans (d vz).symm)
 | rw n hn k c p q o w=>obtain ⟨a,b,d,f⟩:=hr n (R n k c tO);exact .rw n hn k c p (a.trans q) (o.trans (f vz).symm) (w.trans (d vz).symm)
 | rf n hn k c p q o=>obtain ⟨a,b,d,f⟩:=hr n (R n k c tO);exact .rf n hn k c p (a.trans q) (o.trans (f vz).symm)
 | rl n hn k c p q=>obtain ⟨a,b,d,f⟩:=hr n (R n k c tO);exact .rl n hn k c p (a.trans q)
 | rW n hn k c p q m=>obtain ⟨a,b,d,f⟩:=hr n (R n k c tO);exact .rW n hn k c p (a.trans q) (m.trans (b vz).symm)
 | rF n hn k c p q m=>obtain ⟨a,b,d,f⟩:=hr n (R n k c tO);exact .rF n hn k c p (a.trans q) (m.trans (b vz).symm)
 | rm n hn k c p q=>obtain ⟨a,b,d,f⟩:=hr n (R n k c tO);exact .rm n hn k c p (a.trans q)
 | g n k b p=>exact .g n k (P n k tO b) p
 | gF n m k b hm r p q=>obtain ⟨a,d⟩:=F m (G m k r tO tO);exact .gF n m k (P n k tO b) hm r p (a.trans q)
 | gX n m k b hm r p q=>obtain ⟨a,d⟩:=F m (G m k r tO tO);exact .gX n m k (P n k tO b) hm r p (a.trans q)
 | gU0 n m k b hm r p q s=>obtain ⟨a,d⟩:=F m (G m k r tO tO);exact .gU0 n m k (P n k tO b) hm r p (a.trans q) s
 | gU3 n m k b hm r p q s w=>obtain ⟨a,d⟩:=F m (G m k r tO tO);exact .gU3 n m k (P n k tO b) hm r p (a.trans q) s (w.trans (d vz).symm)
 | gR n m k b hm r p q w=>obtain ⟨a,d⟩:=F m (G m k r tO tO);exact .gR n m k (P n k tO b) hm r p (a.trans q) (w.trans (d vz).symm)
 | gk n m k b hm r p q=>obtain ⟨a,d⟩:=F m (G m k r tO tO);exact .gk n m k (P n k tO b) hm r p (a.trans q)
 | gl n m k b hm r p q=>obtain ⟨a,d⟩:=F m (G m k r tO tO);exact .gl n m k (P n k tO b) hm r p (a.trans q)
end
section
def aY (c:Ch) (n:Nat):C3:=c.cells.getD n ⟨0,0,0⟩
def aD (hs:List Ha) (i:Nat):Ha:=hs.getD i Ha.zero
def Gh.put (g:Gh) (n:Nat) (y:Lc):Gh:={ g with lc:=fun m=>if m=n then y else g.lc m }
theorem gu (g:Gh) (n:Nat) (y:Lc):(g.put n y).lc n=y:=if_pos rfl
theorem ji (g:Gh) {n m:Nat} (y:Lc) (h:m≠n):(g.put n y).lc m=g.lc m:=if_neg h
structure xh (c:Ch) (g:Gh) (n:Nat):Prop where
 s:(aY c n).s=((g.lc n).s:Int)
 t1:(g.lc n).wt=1→(aY c n).t=g.sid n
 t2:(g.lc n).wt=2→(aY c n).t=g.rid n
 e:(g.lc n).sp≠0→(g.lc n).sp≠2→(aY c n).e=g.el n
structure um (c:Ch) (g:Gh) (n:Nat):Prop where
 s:(g.lc n).sw≠3→1≤g.sid n∧g.sid n≤c.words.length∧dH c (g.sid n)=((g.lc n).sw:Int)
 r:(g.lc n).rw≠3→1≤g.rid n∧g.rid n≤c.words.length∧dH c (g.rid n)=((g.lc n).rw:Int)
structure WA (g:Gh):Prop where
 ss:∀ n m,n<40→m<40→n≠m→(g.lc n).sw≠3→(g.lc m).sw≠3→g.sid n≠g.sid m
 rr:∀ n m,n<40→m<40→n≠m→(g.lc n).rw≠3→(g.lc m).rw≠3→g.rid n≠g.rid m
 sr:∀ n m,n<40→m<40→(g.lc n).sw≠3→(g.lc m).rw≠3→g.sid n≠g.rid m
def gJ (v:Nat):Prop:=v≠0∧v<30
def gL (v:Nat):Prop:=v≠0∧v<70
def iM (v:Nat):Prop:=17≤v∧v<30
def aR (v:Nat):Nat:=if v=70∨v=23∨v=24∨v=25∨v=72∨v=73∨v=74 then 1 else 0
def aG (v:Nat):Nat:=if v=31 then 1 else 0
def aC (y:Lc):Nat:=aR y.rp+aG y.gp
def jl (f:Nat→Nat):Nat→Nat
 | 0=>0
 | n+1=>jl f n+f n
def qJ (g:Gh):Nat:=jl (fun n=>aC (g.lc n)) 40
def pc (h:Ha):Nat:=if h.pos=16 then 1 else 0
def p16 (hs:List Ha):Nat:=jl (fun i=>pc (aD hs i)) hs.length
theorem mR {f f':Nat→Nat} {n:Nat} (h:∀ m,m<n→f' m=f m):jl f' n=jl f n:=by
 induction n with
 | zero=>rfl
 | succ n ih=>simp only [jl];rw [ih (fun m F=>h m tO),h n tO]
theorem oM {f f':Nat→Nat} {n k:Nat} (H:k<n) (h:∀ m,m<n→m≠k→f' m=f m):jl f' n+f k=jl f n+f' k:=by
 induction n with
 | zero=>omega
 | succ n ih =>
  simp only [jl];by_cases e:k=n
  ·subst e
   rw [mR (f:=f) (f':=f') (fun m G=>h m tO tO)];omega
  ·have:=ih tO (fun m G F=>h m tO F)
   rw [h n tO tO];omega
def wC (y:Lc):Nat:=(if y.sw=3 then 0 else 1)+(if y.rw=3 then 0 else 1)
structure Q (c:Ch) (hs:List Ha) (g:Gh):Prop where
 len:c.cells.length=40
 way:∀ n,n<40→In (g.lc n)
 cS:∀ n:Nat,n<40→((g.lc n).sp≠0↔(n:Int)<c.sent)
 cR:∀ n:Nat,n<40→((g.lc n).rp≠0↔(n:Int)<c.got)
 cE:∀ n:Nat,n<40→((g.lc n).gp≠0↔(n:Int)<c.fin)
 cell:∀ n,n<40→xh c g n
 word:∀ n,n<40→um c g n
 ids:WA g
 hand:∀ i,i<hs.length→HP g (aD hs i)
 us:∀ i j n,i<hs.length→j<hs.length→i≠j→sc (aD hs i)=some n→sc (aD hs j)≠some n
 ur:∀ i j n,i<hs.length→j<hs.length→i≠j→rc (aD hs i)=some n→rc (aD hs j)≠some n
 ug:∀ i j n,i<hs.length→j<hs.length→i≠j→gc (aD hs i)=some n→gc (aD hs j)≠some n
 aS:∀ n,n<40→gJ (g.lc n).sp→∃ i,i<hs.length∧sc (aD hs i)=some n
 aR_:∀ n,n<40→gL (g.lc n).rp→∃ i,i<hs.length∧rc (aD hs i)=some n
 aG_:∀ n,n<40→iM (g.lc n).gp→∃ i,i<hs.length∧gc (aD hs i)=some n
 wc:c.words.length=jl (fun n=>wC (g.lc n)) 40
 cnt:(c.cap=0∧c.fin=0)∨(0<c.cap∧c.fin+p16 hs≤c.cap+qJ g∧(c.fin<40→c.fin+p16 hs=c.cap+qJ g))
theorem dI {hs:List Ha} {i:Nat} (h':Ha) (F:i<hs.length) (j:Nat):aD (hs.set i h') j=if i=j then h' else aD hs j:=by
 unfold aD;rw [List.getD_eq_getElem?_getD,List.getElem?_set,List.getD_eq_getElem?_getD];by_cases e:i=j
 ·subst e;simp [F]
 ·simp [e]
theorem pX {hs:List Ha} {i:Nat} (h':Ha) (F:i<hs.length):p16 (hs.set i h')+pc (aD hs i)=p16 hs+pc h':=by
 unfold p16;rw [List.length_set]
 have:=oM (f:=fun j=>pc (aD hs j)) (f':=fun j=>pc (aD (hs.set i h') j)) F (fun m _ G=>by
  show pc (aD (hs.set i h') m)=pc (aD hs m)
  rw [dI h' F,if_neg (fun e=>G e.symm)])
 simp only [dI h' F,if_pos] at this ⊢;exact this
theorem Pz {g:Gh} {n:Nat} (y:Lc) (G:n<40):qJ (g.put n y)+aC (g.lc n)=qJ g+aC y:=by
 have:=oM (f:=fun m=>aC (g.lc m)) (f':=fun m=>aC ((g.put n y).lc m)) G (fun m _ F=>by
  show aC ((g.put n y).lc m)=aC (g.lc m)
  rw [ji g y F])
 simp only [gu] at this;exact this
theorem claims {cl:Ha→Option Nat} {hs:List Ha} {i:Nat} {h':Ha} (I:i<hs.length) (L:∀ n,cl h'=some n→cl (aD hs i)=some n)
  (us:∀ i j n,i<hs.length→j<hs.length→i≠j→cl (aD hs i)=some n→cl (aD hs j)≠some n) :
  ∀ a b n,a<(hs.set i h').length→b<(hs.set i h').length→a≠b→cl (aD (hs.set i h') a)=some n→cl (aD (hs.set i h') b)≠some n:=by
 intro a b n G H F h1 h2;rw [List.length_set] at G H;rw [dI h' I] at h1 h2;by_cases J:i=a
 ·subst J
  rw [if_pos rfl] at h1;rw [if_neg F] at h2;exact us i b n I H F (L n h1) h2
 ·rw [if_neg J] at h1
  by_cases K:i=b
  ·subst K
   rw [if_pos rfl] at h2;exact us a i n G I F h1 (L n h2)
  ·rw [if_neg K] at h2
   exact us a b n G H F h1 h2
theorem Q.move {c c':Ch} {hs:List Ha} {g:Gh} {i n0:Nat} {h':Ha} {y:Lc} (q:Q c hs g) (J:i<hs.length) (h0:n0<40) (hy:In y)
  (zs:y.sp=0↔(g.lc n0).sp=0) (zr:y.rp=0↔(g.lc n0).rp=0) (zg:y.gp=0↔(g.lc n0).gp=0)
  (kc:c'.cap=c.cap) (k1:c'.sent=c.sent) (k2:c'.got=c.got) (V:c'.fin=c.fin)
  (wn:c'.words.length=c.words.length) (cl:c'.cells.length=40) (co:∀ n,n<40→n≠n0→aY c' n=aY c n) (c0:xh c' (g.put n0 y) n0)
  (wl:∀ n,n<40→um c' (g.put n0 y) n) (U:y.sw=3↔(g.lc n0).sw=3) (rk:y.rw=3↔(g.lc n0).rw=3)
  (hh:HP (g.put n0 y) h')
  (os:y.sp=(g.lc n0).sp∨sc (aD hs i)=some n0) (T:y.rp=(g.lc n0).rp∨rc (aD hs i)=some n0) (og:y.gp=(g.lc n0).gp∨gc (aD hs i)=some n0)
  (ks:∀ n,sc h'=some n→sc (aD hs i)=some n) (kr:∀ n,rc h'=some n→rc (aD hs i)=some n) (kg:∀ n,gc h'=some n→gc (aD hs i)=some n)
  (ds:∀ n,sc (aD hs i)=some n→sc h'=some n∨(n=n0∧¬ gJ y.sp)) (dr:∀ n,rc (aD hs i)=some n→rc h'=some n∨(¬ gL ((g.put n0 y).lc n).rp)) (dg:∀ n,gc (aD hs i)=some n→gc h'=some n∨(n=n0∧¬ iM y.gp))
  (X:gJ y.sp→gJ (g.lc n0).sp) (Y:gL y.rp→gL (g.lc n0).rp) (Z:iM y.gp→iM (g.lc n0).gp)
  (ct:(pc h':Int)+aC (g.lc n0)=pc (aD hs i)+aC y):Q c' (hs.set i h') (g.put n0 y):=by
 have L:∀ m,m≠n0→(g.put n0 y).lc m=g.lc m:=fun m H=>ji g y H
 have I:(g.put n0 y).lc n0=y:=gu g n0 y;have sw:∀ m,((g.put n0 y).lc m).sw≠3→(g.lc m).sw≠3:=fun m H=>by
  by_cases e:m=n0
  ·subst e;rw [I] at H;exact fun h=>H (U.2 h)
  ·rwa [L m e] at H
 have O:∀ m,((g.put n0 y).lc m).rw≠3→(g.lc m).rw≠3:=fun m H=>by
  by_cases e:m=n0
  ·subst e;rw [I] at H;exact fun h=>H (rk.2 h)
  ·rwa [L m e] at H
 have K:∀ {cl:Ha→Option Nat} {A:Nat→Prop} {f:Lc→Nat},(∀ n,n<40→A (f (g.lc n))→∃ i,i<hs.length∧cl (aD hs i)=some n)→(A (f y)→A (f (g.lc n0)))→(∀ n,cl (aD hs i)=some n→cl h'=some n∨¬ A (f ((g.put n0 y).lc n)))→∀ n,n<40→A (f ((g.put n0 y).lc n))→∃ j,j<(hs.set i h').length∧cl (aD (hs.set i h') j)=some n:=by
  intro cl A f ha hb hd n F R;have h1:A (f (g.lc n)):=by
   by_cases e:n=n0
   ·subst e;rw [I] at R;exact hb R
   ·rwa [L n e] at R
  obtain ⟨j,M,e⟩:=ha n F h1;refine ⟨j,by rw [List.length_set];exact M,?_⟩;rw [dI h' J];by_cases G:i=j
  ·subst G
   rw [if_pos rfl];rcases hd n e with h2|h2
   ·exact h2
   ·exact absurd R h2
  ·rw [if_neg G];exact e
 refine ⟨cl,?_,?_,?_,?_,?_,wl,?_,?_,claims (cl:=sc) J ks q.us,claims (cl:=rc) J kr q.ur,claims (cl:=gc) J kg q.ug,?_,?_,?_,?_,?_⟩
 ·intro n F
  by_cases e:n=n0
  ·subst e;rw [I];exact hy
  ·rw [L n e];exact q.way n F
 ·intro n F
  rw [k1];by_cases e:n=n0
  ·subst e;rw [I,← q.cS n F];exact not_congr zs
  ·rw [L n e];exact q.cS n F
 ·intro n F
  rw [k2];by_cases e:n=n0
  ·subst e;rw [I,← q.cR n F];exact not_congr zr
  ·rw [L n e];exact q.cR n F
 ·intro n F
  rw [V];by_cases e:n=n0
  ·subst e;rw [I,← q.cE n F];exact not_congr zg
  ·rw [L n e];exact q.cE n F
 ·intro n F
  by_cases e:n=n0
  ·subst e;exact c0
  ·obtain ⟨p1,p2,p3,p4⟩:=q.cell n F
   have hc:=co n F e;refine ⟨?_,?_,?_,?_⟩ <;> rw [hc,L n e]
   ·exact p1
   ·exact p2
   ·exact p3
   ·exact p4
 ·exact ⟨fun n m F H N h1 h2=>q.ids.ss n m F H N (sw n h1) (sw m h2),fun n m F H N h1 h2=>q.ids.rr n m F H N (O n h1) (O m h2),fun n m F H h1 h2=>q.ids.sr n m F H (sw n h1) (O m h2)⟩
 ·intro j M
  rw [List.length_set] at M;rw [dI h' J];by_cases G:i=j
  ·rw [if_pos G];exact hh
  ·rw [if_neg G]
   refine (q.hand j M).frame ?_ ?_ ?_
   ·intro n F
    refine ⟨?_,rfl,fun _=>rfl,fun _=>rfl⟩;by_cases e:n=n0
    ·subst e
     rw [I];rcases os with h|h
     ·exact h
     ·exact absurd F (q.us i j n J M G h)
    ·rw [L n e]
   ·intro n F
    refine ⟨?_,fun _=>rfl,fun _=>rfl,fun _=>rfl⟩;by_cases e:n=n0
    ·subst e
     rw [I];rcases T with h|h
     ·exact h
     ·exact absurd F (q.ur i j n J M G h)
    ·rw [L n e]
   ·intro n F
    refine ⟨?_,fun _=>rfl⟩;by_cases e:n=n0
    ·subst e
     rw [I];rcases og with h|h
     ·exact h
     ·exact absurd F (q.ug i j n J M G h)
    ·rw [L n e]
 ·exact K (cl:=sc) (A:=gJ) (f:=Lc.sp) q.aS X (fun n F=>(ds n F).imp id (fun ⟨e,h⟩=>by subst e;rw [I];exact h))
 ·exact K (cl:=rc) (A:=gL) (f:=Lc.rp) q.aR_ Y dr
 ·exact K (cl:=gc) (A:=iM) (f:=Lc.gp) q.aG_ Z (fun n F=>(dg n F).imp id (fun ⟨e,h⟩=>by subst e;rw [I];exact h))
 ·rw [wn,q.wc]
  refine (mR fun m _=>?_).symm;show wC ((g.put n0 y).lc m)=wC (g.lc m);by_cases e:m=n0
  ·subst e
   rw [I];unfold wC;by_cases a:y.sw=3 <;> by_cases b:y.rw=3 <;> simp [a,b,U.1,rk.1,← U,← rk]
  ·rw [L m e]
 ·rw [kc,V]
  have e1:=pX h' J;have e2:=Pz (g:=g) y h0;rcases q.cnt with h|⟨h1,h2,h3⟩
  ·exact .inl h
  ·refine .inr ⟨h1,by omega,fun hf=>?_⟩
   have:=h3 hf;omega
end
section
theorem mh {c c':Ch} {g:Gh} {n0:Nat} {y:Lc} (q:∀ n,n<40→um c g n) (F:c'.words=c.words) (J:n0<40) (G:y.sw=(g.lc n0).sw) (H:y.rw=(g.lc n0).rw):∀ n,n<40→um c' (g.put n0 y) n:=by
 intro n I;obtain ⟨s,r⟩:=q n I;have w:∀ v,dH c' v=dH c v:=fun v=>by unfold dH;rw [F]
 by_cases e:n=n0
 ·subst e
  refine ⟨?_,?_⟩ <;> rw [gu,F,w]
  ·rw [G];exact s
  ·rw [H];exact r
 ·refine ⟨?_,?_⟩ <;> rw [ji g y e,F,w]
  ·exact s
  ·exact r
theorem P5 {l:List Int} {i j:Nat} {v:Int} (F:i<l.length):(l.set i v).getD j 0=if i=j then v else l.getD j 0:=by
 rw [List.getD_eq_getElem?_getD,List.getElem?_set,List.getD_eq_getElem?_getD];by_cases e:i=j
 ·subst e;simp [F]
 ·simp [e]
theorem kH {c:Ch} {w v:Int} (h:eG c w v=true) (u:Int) (G:1≤u):dH (cZ c w v) u=if u=w then v else dH c u:=by
 have F:=h;simp only [eG,Bool.and_eq_true,jR,dK] at F;obtain ⟨⟨h1,h2⟩,_⟩:=F;unfold cZ;rw [if_pos h];unfold dH;rw [P5 tO];by_cases e:u=w
 ·subst e;simp
 ·rw [if_neg e,if_neg tO]
theorem oQ (c:Ch) (w v:Int):(cZ c w v).words.length=c.words.length:=by
 unfold cZ;split
 ·simp
 ·rfl
theorem ym (c:Ch) (w v:Int):(cZ c w v).cells=c.cells∧(cZ c w v).cap=c.cap∧(cZ c w v).sent=c.sent∧(cZ c w v).got=c.got∧(cZ c w v).fin=c.fin:=by
 unfold cZ;split
 ·exact ⟨rfl,rfl,rfl,rfl,rfl⟩
 ·exact ⟨rfl,rfl,rfl,rfl,rfl⟩
theorem uw {c:Ch} {g:Gh} {n0:Nat} {y:Lc} {v:Nat} (q:∀ n,n<40→um c g n) (I:WA g) (G:n0<40) (hs:(g.lc n0).sw≠3) (ht:eG c (g.sid n0) v=true) (K:v≠3) (H:y.sw=v) (J:y.rw=(g.lc n0).rw):∀ n,n<40→um (cZ c (g.sid n0) v) (g.put n0 y) n:=by
 intro n F;obtain ⟨s,r⟩:=q n F;by_cases e:n=n0
 ·subst e
  refine ⟨?_,?_⟩ <;> rw [gu,oQ]
  ·intro _
   obtain ⟨a,b,_⟩:=s hs;refine ⟨a,b,?_⟩;show dH _ (g.sid n)=_;rw [kH ht _ a,if_pos rfl,H]
  ·rw [J]
   intro hr;obtain ⟨a,b,d⟩:=r hr;refine ⟨a,b,?_⟩;show dH _ (g.rid n)=_;rw [kH ht _ a,if_neg (fun e=>I.sr n n F F hs hr e.symm)];exact d
 ·refine ⟨?_,?_⟩ <;> rw [ji g y e,oQ]
  ·intro hr
   obtain ⟨a,b,d⟩:=s hr;refine ⟨a,b,?_⟩;show dH _ (g.sid n)=_;rw [kH ht _ a,if_neg (I.ss n n0 F G e hr hs)];exact d
  ·intro hr
   obtain ⟨a,b,d⟩:=r hr;refine ⟨a,b,?_⟩;show dH _ (g.rid n)=_;rw [kH ht _ a,if_neg (fun e=>I.sr n0 n G F hs hr e.symm)];exact d
theorem yL {c:Ch} {g:Gh} {n0:Nat} {y:Lc} {v:Nat} (q:∀ n,n<40→um c g n) (I:WA g) (G:n0<40) (hs:(g.lc n0).rw≠3) (ht:eG c (g.rid n0) v=true) (K:v≠3) (H:y.rw=v) (J:y.sw=(g.lc n0).sw):∀ n,n<40→um (cZ c (g.rid n0) v) (g.put n0 y) n:=by
 intro n F;obtain ⟨s,r⟩:=q n F;by_cases e:n=n0
 ·subst e
  refine ⟨?_,?_⟩ <;> rw [gu,oQ]
  ·rw [J]
   intro hr;obtain ⟨a,b,d⟩:=s hr;refine ⟨a,b,?_⟩;show dH _ (g.sid n)=_;rw [kH ht _ a,if_neg (I.sr n n F F hr hs)];exact d
  ·intro _
   obtain ⟨a,b,_⟩:=r hs;refine ⟨a,b,?_⟩;show dH _ (g.rid n)=_;rw [kH ht _ a,if_pos rfl,H]
 ·refine ⟨?_,?_⟩ <;> rw [ji g y e,oQ]
  ·intro hr
   obtain ⟨a,b,d⟩:=s hr;refine ⟨a,b,?_⟩;show dH _ (g.sid n)=_;rw [kH ht _ a,if_neg (I.sr n n0 F G hr hs)];exact d
  ·intro hr
   obtain ⟨a,b,d⟩:=r hr;refine ⟨a,b,?_⟩;show dH _ (g.rid n)=_;rw [kH ht _ a,if_neg (I.rr n n0 F G e hr hs)];exact d
structure Same (c c':Ch) (n0:Nat):Prop where
 cap:c'.cap=c.cap
 sent:c'.sent=c.sent
 got:c'.got=c.got
 fin:c'.fin=c.fin
 len:c'.cells.length=c.cells.length
 words:c'.words.length=c.words.length
 co:∀ n,n≠n0→aY c' n=aY c n
theorem jg {h:Ha} (k:h.code=2):sc h=none:=by simp [sc,k]
theorem jr {h:Ha} (k:h.code=1):rc h=none:=by simp [rc,k]
theorem uV {h:Ha} (k:h.code=1):gc h=none:=by simp [gc,k]
theorem sc_at {h:Ha} {n:Nat} (k:h.code=1) (p:2≤h.pos) (c:h.cell=(n:Int)):sc h=some n:=by simp [sc,k,p,c]
theorem rc_at {h:Ha} {n:Nat} (k:h.code=2) (p:10≤h.pos) (c:h.cell=(n:Int)):rc h=some n:=by simp [rc,k,p,c]
theorem gc_at {h:Ha} {n:Nat} (k:h.code=2) (p:17≤h.pos) (F:h.pos≤22) (c:h.grow=(n:Int)):gc h=some n:=by simp [gc,k,p,F,c]
theorem mU {h:Ha} (p:h.pos<2):sc h=none:=by unfold sc;rw [if_neg tO]
theorem iO {h:Ha} (p:h.pos<10):rc h=none:=by unfold rc;rw [if_neg tO]
theorem kK {h:Ha} (p:h.pos<17∨22<h.pos):gc h=none:=by unfold gc;rw [if_neg tO]
theorem Q.moveS {c c':Ch} {hs:List Ha} {g:Gh} {i n0:Nat} {h':Ha} {y:Lc} (q:Q c hs g) (X:i<hs.length) (U:n0<40) (Y:In y)
  (k:(aD hs i).code=1) (p:2≤(aD hs i).pos) (Z:(aD hs i).pos≠16) (K:(aD hs i).cell=(n0:Int)) (A:gJ (g.lc n0).sp)
  (y0:y.sp≠0) (I:y.rp=(g.lc n0).rp) (H:y.gp=(g.lc n0).gp) (S:Same c c' n0) (c0:xh c' (g.put n0 y) n0)
  (wl:∀ n,n<40→um c' (g.put n0 y) n) (wk:y.sw=3↔(g.lc n0).sw=3) (rk:y.rw=3↔(g.lc n0).rw=3) (V:HP (g.put n0 y) h')
  (G:(h'.code=1∧2≤h'.pos∧h'.pos≠16∧h'.cell=(n0:Int))∨(h'.pos<2∧¬ gJ y.sp)):Q c' (hs.set i h') (g.put n0 y):=by
 have L:=sc_at k p K;have r0:=jr (h:=aD hs i) k;have T:=uV (h:=aD hs i) k;have M:rc h'=none:=by rcases G with ⟨a,_⟩|⟨a,_⟩ <;> first|exact jr a|exact iO tO
 have N:gc h'=none:=by rcases G with ⟨a,_⟩|⟨a,_⟩ <;> first|exact uV a|exact kK tO
 have O:pc h'=0:=by rcases G with ⟨_,_,a,_⟩|⟨a,_⟩ <;> simp [pc] <;> omega
 have R:pc (aD hs i)=0:=by simp [pc,Z]
 refine q.move X U Y ⟨fun e=>absurd e y0,fun e=>absurd e A.1⟩ (by rw [I]) (by rw [H]) S.cap S.sent S.got S.fin S.words (S.len.trans q.len) (fun n _ J=>S.co n J) c0 wl wk rk V (.inr L) (.inl I) (.inl H) ?_ ?_ ?_ ?_ ?_ ?_ (fun _=>A) (by rw [I];exact id) (by rw [H];exact id) ?_
 ·intro n F
  rcases G with ⟨a,b,_,d⟩|⟨a,_⟩
  ·rw [sc_at a b d] at F;rw [L];exact F
  ·rw [mU a] at F;cases F
 ·intro n F;rw [M] at F;cases F
 ·intro n F;rw [N] at F;cases F
 ·intro n F
  rw [L] at F;obtain rfl:=Option.some.inj F;rcases G with ⟨a,b,_,d⟩|⟨_,a⟩
  ·exact .inl (sc_at a b d)
  ·exact .inr ⟨rfl,a⟩
 ·intro n F;rw [r0] at F;cases F
 ·intro n F;rw [T] at F;cases F
 ·rw [O,R];simp [aC,I,H]
theorem Q.moveR {c c':Ch} {hs:List Ha} {g:Gh} {i n0:Nat} {h':Ha} {y:Lc} (q:Q c hs g) (U:i<hs.length) (R:n0<40) (V:In y)
  (k:(aD hs i).code=2) (p:10≤(aD hs i).pos) (p':(aD hs i).pos<16∨22<(aD hs i).pos) (J:(aD hs i).cell=(n0:Int)) (A:gL (g.lc n0).rp)
  (y0:y.rp≠0) (ys:y.sp=(g.lc n0).sp) (H:y.gp=(g.lc n0).gp) (S:Same c c' n0) (c0:xh c' (g.put n0 y) n0)
  (Z:∀ n,n<40→um c' (g.put n0 y) n) (Y:y.sw=3↔(g.lc n0).sw=3) (rk:y.rw=3↔(g.lc n0).rw=3) (T:HP (g.put n0 y) h')
  (G:(h'.code=2∧10≤h'.pos∧(h'.pos<16∨22<h'.pos)∧h'.cell=(n0:Int)∧aR y.rp=aR (g.lc n0).rp)∨(h'.code=2∧h'.pos=16∧h'.cell=(n0:Int)∧aR y.rp=aR (g.lc n0).rp+1)∨((h'.pos<2∨(h'.pos=9∧h'.code=2))∧¬ gL y.rp∧aR y.rp=aR (g.lc n0).rp)):Q c' (hs.set i h') (g.put n0 y):=by
 have K:=rc_at k p J;have X:=jg (h:=aD hs i) k;have O:gc (aD hs i)=none:=kK tO;have L:sc h'=none:=by
  rcases G with ⟨a,_⟩|⟨a,_⟩|⟨a|⟨_,a⟩,_⟩ <;> first|exact jg a|exact mU a
 have M:gc h'=none:=by
  rcases G with ⟨_,_,a,_⟩|⟨_,a,_⟩|⟨a|⟨a,_⟩,_⟩
  all_goals exact kK tO
 have N:pc (aD hs i)=0:=by simp [pc];omega
 refine q.move U R V (by rw [ys]) ⟨fun e=>absurd e y0,fun e=>absurd e A.1⟩ (by rw [H]) S.cap S.sent S.got S.fin S.words (S.len.trans q.len) (fun n _ I=>S.co n I) c0 Z Y rk T (.inl ys) (.inr K) (.inl H) ?_ ?_ ?_ ?_ ?_ ?_ (by rw [ys];exact id) (fun _=>A) (by rw [H];exact id) ?_
 ·intro n F;rw [L] at F;cases F
 ·intro n F
  rw [K];rcases G with ⟨a,b,_,d,_⟩|⟨a,b,d,_⟩|⟨a|⟨a,_⟩,_⟩
  ·rw [rc_at a b d] at F;exact F
  ·rw [rc_at a tO d] at F;exact F
  ·rw [iO tO] at F;cases F
  ·rw [iO tO] at F;cases F
 ·intro n F;rw [M] at F;cases F
 ·intro n F;rw [X] at F;cases F
 ·intro n F
  rw [K] at F;obtain rfl:=Option.some.inj F;rcases G with ⟨a,b,_,d,_⟩|⟨a,b,d,_⟩|⟨_,a,_⟩
  ·exact .inl (rc_at a b d)
  ·exact .inl (rc_at a tO d)
  ·exact .inr (by rw [gu];exact a)
 ·intro n F;rw [O] at F;cases F
 ·rw [N]
  simp only [aC,H];rcases G with ⟨_,_,a,_,b⟩|⟨_,a,_,b⟩|⟨a,_,b⟩
  ·have:pc h'=0:=by simp [pc];omega
   omega
  ·have:pc h'=1:=by simp [pc,a]
   omega
  ·have:pc h'=0:=by simp [pc];omega
   omega
theorem Q.moveG {c c':Ch} {hs:List Ha} {g:Gh} {i n0 n:Nat} {h':Ha} {y:Lc} (q:Q c hs g) (Y:i<hs.length) (V:n0<40) (Z:In y)
  (k:(aD hs i).code=2) (p:17≤(aD hs i).pos) (p':(aD hs i).pos≤22) (N:(aD hs i).grow=(n0:Int)) (b:Gp g (aD hs i) n) (A:iM (g.lc n0).gp)
  (y0:y.gp≠0) (ys:y.sp=(g.lc n0).sp) (J:y.rp=(g.lc n0).rp) (S:Same c c' n0) (c0:xh c' (g.put n0 y) n0)
  (wl:∀ n,n<40→um c' (g.put n0 y) n) (wk:y.sw=3↔(g.lc n0).sw=3) (rk:y.rw=3↔(g.lc n0).rw=3) (X:HP (g.put n0 y) h')
  (H:(h'.code=2∧17≤h'.pos∧h'.pos≤22∧h'.cell=(n:Int)∧h'.grow=(n0:Int)∧aG y.gp=0)∨(h'.code=2∧h'.pos=16∧h'.cell=(n:Int)∧aG y.gp=1∧¬ iM y.gp)∨((∃ G:Ha,G.code=2∧Gp g G n∧h'=bF G)∧aG y.gp=0∧¬ iM y.gp)):Q c' (hs.set i h') (g.put n0 y):=by
 obtain ⟨bn,K,_⟩:=b;have O:rc (aD hs i)=some n:=rc_at k tO K;have s0:=jg (h:=aD hs i) k;have L:gc (aD hs i)=some n0:=gc_at k p p' N;have U:pc (aD hs i)=0:=by simp [pc];omega
 have R:aG (g.lc n0).gp=0:=by unfold aG;rw [if_neg (by have:=A.2;omega)]
 have gr:(∃ G:Ha,G.code=2∧Gp g G n∧h'=bF G)→(h'.pos<2∧(g.lc n).rp=70)∨(h'.code=2∧h'.pos=23∧h'.cell=(n:Int))∨(h'.code=2∧h'.pos=9∧(g.lc n).rp=73):=by
  rintro ⟨G,k,⟨_,K,T⟩,e⟩;rcases T with ⟨I,c2,_⟩|⟨I,c2,_⟩|⟨I,c2⟩
  ·refine .inl ⟨?_,c2⟩
   rw [e];simp [bF,I,aM]
  ·refine .inr (.inl ?_)
   rw [e];have:bF G={ G with pos:=23 }:=by simp [bF,I]
   rw [this];exact ⟨k,rfl,K⟩
  ·refine .inr (.inr ?_)
   rw [e];have:bF G=anew G:=by simp [bF,I]
   rw [this];refine ⟨k,?_,c2⟩;simp [anew,begun,k]
 have rn:∀ m,((g.put n0 y).lc m).rp=(g.lc m).rp:=fun m=>by
  by_cases e:m=n0
  ·subst e;rw [gu];exact J
  ·rw [ji g y e]
 refine q.move Y V Z (by rw [ys]) (by rw [J]) ⟨fun e=>absurd e y0,fun e=>by have:=A.1;omega⟩ S.cap S.sent S.got S.fin S.words (S.len.trans q.len) (fun n _ M=>S.co n M) c0 wl wk rk X (.inl ys) (.inl J) (.inr L) ?_ ?_ ?_ ?_ ?_ ?_ (by rw [ys];exact id) (by rw [J];exact id) (fun _=>A) ?_
 ·intro m F
  rcases H with ⟨a,_⟩|⟨a,_⟩|⟨a,_⟩
  ·rw [jg a] at F;cases F
  ·rw [jg a] at F;cases F
  ·rcases gr a with ⟨d,_⟩|⟨d,_⟩|⟨d,_⟩
   ·rw [mU d] at F;cases F
   ·rw [jg d] at F;cases F
   ·rw [jg d] at F;cases F
 ·intro m F
  rw [O];rcases H with ⟨a,b,_,d,_⟩|⟨a,b,d,_⟩|⟨a,_⟩
  ·rw [rc_at a tO d] at F;exact F
  ·rw [rc_at a tO d] at F;exact F
  ·rcases gr a with ⟨d,_⟩|⟨d,e,f⟩|⟨_,d,_⟩
   ·rw [iO tO] at F;cases F
   ·rw [rc_at d tO f] at F;exact F
   ·rw [iO tO] at F;cases F
 ·intro m F
  rw [L];rcases H with ⟨a,b,d,_,e,_⟩|⟨_,b,_⟩|⟨a,_⟩
  ·rw [gc_at a b d e] at F;exact F
  ·rw [kK tO] at F;cases F
  ·rcases gr a with ⟨d,_⟩|⟨_,d,_⟩|⟨_,d,_⟩ <;> (rw [kK tO] at F;cases F)
 ·intro m F;rw [s0] at F;cases F
 ·intro m F
  rw [O] at F;obtain rfl:=Option.some.inj F;rw [rn];rcases H with ⟨a,b,_,d,_⟩|⟨a,b,d,_⟩|⟨a,_⟩
  ·exact .inl (rc_at a tO d)
  ·exact .inl (rc_at a tO d)
  ·rcases gr a with ⟨_,d⟩|⟨d,e,f⟩|⟨_,_,d⟩
   ·exact .inr (by rw [d];unfold gL;omega)
   ·exact .inl (rc_at d tO f)
   ·exact .inr (by rw [d];unfold gL;omega)
 ·intro m F
  rw [L] at F;obtain rfl:=Option.some.inj F;rcases H with ⟨a,b,d,_,e,_⟩|⟨_,_,_,_,b⟩|⟨_,_,b⟩
  ·exact .inl (gc_at a b d e)
  ·exact .inr ⟨rfl,b⟩
  ·exact .inr ⟨rfl,b⟩
 ·rw [U]
  simp only [aC,J,R];rcases H with ⟨_,a,b,_,_,d⟩|⟨_,a,_,d,_⟩|⟨a,d,_⟩
  ·have:pc h'=0:=by simp [pc];omega
   omega
  ·have:pc h'=1:=by simp [pc,a]
   omega
  ·have:pc h'=0:=by
    rcases gr a with ⟨e,_⟩|⟨_,e,_⟩|⟨_,e,_⟩ <;> (simp [pc];omega)
   omega
end
section
theorem HP.sc_at {g:Gh} {h:Ha} {n:Nat} (H:HP g h) (e:sc h=some n):n<40∧gJ (g.lc n).sp:=by
 unfold sc at e;split at e
 case isFalse=>cases e
 case isTrue hc =>
  obtain ⟨F,G⟩:=hc;have e:=Option.some.inj e;cases H with
  | rest p=>omega
  | s0 k p=>omega
  | r0 k p=>omega
  | sL m hm k c e2 p q=>(obtain rfl:m=n:=by omega);exact ⟨hm,by rw [q];unfold gJ;omega⟩
  | sK m hm k c e2 p q=>(obtain rfl:m=n:=by omega);exact ⟨hm,by rw [q];unfold gJ;omega⟩
  | sE m hm k c e2 p q s=>(obtain rfl:m=n:=by omega);exact ⟨hm,by rw [q];unfold gJ;omega⟩
  | sM0 m hm k c e2 p q s f1=>(obtain rfl:m=n:=by omega);exact ⟨hm,by rw [q];unfold gJ;omega⟩
  | sM1 m hm k c e2 p q s f1=>(obtain rfl:m=n:=by omega);exact ⟨hm,by rw [q];unfold gJ;omega⟩
  | sP1 m hm k c e2 p q s=>(obtain rfl:m=n:=by omega);exact ⟨hm,by rw [q];unfold gJ;omega⟩
  | sP0 m hm k c e2 p q s f1 f2=>(obtain rfl:m=n:=by omega);exact ⟨hm,by rw [q];unfold gJ;omega⟩
  | sPk m hm k c e2 p q s f1=>(obtain rfl:m=n:=by omega);exact ⟨hm,by rw [q];unfold gJ;omega⟩
  | sC m hm k c e2 p q w=>(obtain rfl:m=n:=by omega);exact ⟨hm,by rw [q];unfold gJ;omega⟩
  | sD m hm k c e2 p q=>(obtain rfl:m=n:=by omega);exact ⟨hm,by rw [q];unfold gJ;omega⟩
  | sW m hm k c e2 p q w=>(obtain rfl:m=n:=by omega);exact ⟨hm,by rw [q];unfold gJ;omega⟩
  | sm m hm k c e2 p q=>(obtain rfl:m=n:=by omega);exact ⟨hm,by rw [q];unfold gJ;omega⟩
  | rV m hm k c p q=>omega
  | rS0 m hm k c p q s=>omega
  | rS1 m hm k c p q s=>omega
  | rT00 m hm k c p q s f1=>omega
  | rT01 m hm k c p q s f1=>omega
  | rT10 m hm k c p q s f1=>omega
  | rT11 m hm k c p q s f1=>omega
  | rT2 m hm k c p q s o=>omega
  | rT3 m hm k c p q s o w=>omega
  | rw m hm k c p q o w=>omega
  | rf m hm k c p q o=>omega
  | rl m hm k c p q=>omega
  | rW m hm k c p q w=>omega
  | rF m hm k c p q w=>omega
  | rm m hm k c p q=>omega
  | g m k b p=>omega
  | gF m m2 k b hm r p q=>omega
  | gX m m2 k b hm r p q=>omega
  | gU0 m m2 k b hm r p q s=>omega
  | gU3 m m2 k b hm r p q s w=>omega
  | gR m m2 k b hm r p q w=>omega
  | gk m m2 k b hm r p q=>omega
  | gl m m2 k b hm r p q=>omega
theorem HP.rc_at {g:Gh} {h:Ha} {n:Nat} (H:HP g h) (e:rc h=some n):n<40∧(g.lc n).rp≠0:=by
 unfold rc at e;split at e
 case isFalse=>cases e
 case isTrue hc =>
  obtain ⟨F,G⟩:=hc;have e:=Option.some.inj e;have P:∀ m,Gp g h m→n<40∧(g.lc n).rp≠0:=by
   rintro m ⟨a,b,d⟩;obtain rfl:m=n:=by omega
   refine ⟨a,?_⟩;rcases d with ⟨_,d,_⟩|⟨_,d,_⟩|⟨_,d⟩ <;> omega
  cases H with
  | rest p=>omega
  | s0 k p=>omega
  | r0 k p=>omega
  | sL m hm k c e2 p q=>omega
  | sK m hm k c e2 p q=>omega
  | sE m hm k c e2 p q s=>omega
  | sM0 m hm k c e2 p q s f1=>omega
  | sM1 m hm k c e2 p q s f1=>omega
  | sP1 m hm k c e2 p q s=>omega
  | sP0 m hm k c e2 p q s f1 f2=>omega
  | sPk m hm k c e2 p q s f1=>omega
  | sC m hm k c e2 p q w=>omega
  | sD m hm k c e2 p q=>omega
  | sW m hm k c e2 p q w=>omega
  | sm m hm k c e2 p q=>omega
  | rV m hm k c p q=>(obtain rfl:m=n:=by omega);exact ⟨hm,by omega⟩
  | rS0 m hm k c p q s=>(obtain rfl:m=n:=by omega);exact ⟨hm,by omega⟩
  | rS1 m hm k c p q s=>(obtain rfl:m=n:=by omega);exact ⟨hm,by omega⟩
  | rT00 m hm k c p q s f1=>(obtain rfl:m=n:=by omega);exact ⟨hm,by omega⟩
  | rT01 m hm k c p q s f1=>(obtain rfl:m=n:=by omega);exact ⟨hm,by omega⟩
  | rT10 m hm k c p q s f1=>(obtain rfl:m=n:=by omega);exact ⟨hm,by omega⟩
  | rT11 m hm k c p q s f1=>(obtain rfl:m=n:=by omega);exact ⟨hm,by omega⟩
  | rT2 m hm k c p q s o=>(obtain rfl:m=n:=by omega);exact ⟨hm,by omega⟩
  | rT3 m hm k c p q s o w=>(obtain rfl:m=n:=by omega);exact ⟨hm,by omega⟩
  | rw m hm k c p q o w=>(obtain rfl:m=n:=by omega);exact ⟨hm,by omega⟩
  | rf m hm k c p q o=>(obtain rfl:m=n:=by omega);exact ⟨hm,by omega⟩
  | rl m hm k c p q=>(obtain rfl:m=n:=by omega);exact ⟨hm,by omega⟩
  | rW m hm k c p q w=>(obtain rfl:m=n:=by omega);exact ⟨hm,by omega⟩
  | rF m hm k c p q w=>(obtain rfl:m=n:=by omega);exact ⟨hm,by omega⟩
  | rm m hm k c p q=>(obtain rfl:m=n:=by omega);exact ⟨hm,by omega⟩
  | g m k b p=>exact P m b
  | gF m m2 k b hm r p q=>exact P m b
  | gX m m2 k b hm r p q=>exact P m b
  | gU0 m m2 k b hm r p q s=>exact P m b
  | gU3 m m2 k b hm r p q s w=>exact P m b
  | gR m m2 k b hm r p q w=>exact P m b
  | gk m m2 k b hm r p q=>exact P m b
  | gl m m2 k b hm r p q=>exact P m b
theorem HP.gc_at {g:Gh} {h:Ha} {n:Nat} (H:HP g h) (e:gc h=some n):n<40∧iM (g.lc n).gp:=by
 unfold gc at e;split at e
 case isFalse=>cases e
 case isTrue hc =>
  obtain ⟨F,G,I⟩:=hc;have e:=Option.some.inj e;cases H with
  | rest p=>omega
  | s0 k p=>omega
  | r0 k p=>omega
  | sL m hm k c e2 p q=>omega
  | sK m hm k c e2 p q=>omega
  | sE m hm k c e2 p q s=>omega
  | sM0 m hm k c e2 p q s f1=>omega
  | sM1 m hm k c e2 p q s f1=>omega
  | sP1 m hm k c e2 p q s=>omega
  | sP0 m hm k c e2 p q s f1 f2=>omega
  | sPk m hm k c e2 p q s f1=>omega
  | sC m hm k c e2 p q w=>omega
  | sD m hm k c e2 p q=>omega
  | sW m hm k c e2 p q w=>omega
  | sm m hm k c e2 p q=>omega
  | rV m hm k c p q=>omega
  | rS0 m hm k c p q s=>omega
  | rS1 m hm k c p q s=>omega
  | rT00 m hm k c p q s f1=>omega
  | rT01 m hm k c p q s f1=>omega
  | rT10 m hm k c p q s f1=>omega
  | rT11 m hm k c p q s f1=>omega
  | rT2 m hm k c p q s o=>omega
  | rT3 m hm k c p q s o w=>omega
  | rw m hm k c p q o w=>omega
  | rf m hm k c p q o=>omega
  | rl m hm k c p q=>omega
  | rW m hm k c p q w=>omega
  | rF m hm k c p q w=>omega
  | rm m hm k c p q=>omega
  | g m k b p=>omega
  | gF m m2 k b hm r p q=>(obtain rfl:m2=n:=by omega);exact ⟨hm,by rw [q];unfold iM;omega⟩
  | gX m m2 k b hm r p q=>(obtain rfl:m2=n:=by omega);exact ⟨hm,by rw [q];unfold iM;omega⟩
  | gU0 m m2 k b hm r p q s=>(obtain rfl:m2=n:=by omega);exact ⟨hm,by rw [q];unfold iM;omega⟩
  | gU3 m m2 k b hm r p q s w=>(obtain rfl:m2=n:=by omega);exact ⟨hm,by rw [q];unfold iM;omega⟩
  | gR m m2 k b hm r p q w=>(obtain rfl:m2=n:=by omega);exact ⟨hm,by rw [q];unfold iM;omega⟩
  | gk m m2 k b hm r p q=>(obtain rfl:m2=n:=by omega);exact ⟨hm,by rw [q];unfold iM;omega⟩
  | gl m m2 k b hm r p q=>(obtain rfl:m2=n:=by omega);exact ⟨hm,by rw [q];unfold iM;omega⟩
theorem zW {a b:Nat}:Nat.beq a b=true↔a=b:=⟨Nat.eq_of_beq_eq_true,fun e=>by subst e;exact Nat.beq_refl a⟩
theorem rq {a b:Nat}:Nat.beq a b=false↔a≠b:=⟨fun h e=>(by rw [zW.2 e] at h;cases h),QT⟩
theorem In.f_none {x:Lc} (h:In x) (F:x.sp=0):x.rp≠52∧x.rp≠62∧x.rp≠13∧x.rp≠14∧x.rp≠70∧x.sw=3:=by
 have:=h.imp (fun x=>Nat.beq x.sp 0) (fun x=>!(Nat.beq x.rp 52) && !(Nat.beq x.rp 62) && !(Nat.beq x.rp 13) && !(Nat.beq x.rp 14) && !(Nat.beq x.rp 70) && Nat.beq x.sw 3) bH gN;simp only [Bool.and_eq_true,Bool.not_eq_true',zW,rq] at this;omega
theorem In.f_p0 {x:Lc} (h:In x) (F:x.sp=16):x.rp≠62∧x.rp≠13∧x.gp≠29∧x.gp≠20∧x.sw=3:=by
 have:=h.imp (fun x=>Nat.beq x.sp 16) (fun x=>!(Nat.beq x.rp 62) && !(Nat.beq x.rp 13) && !(Nat.beq x.gp 29) && !(Nat.beq x.gp 20) && Nat.beq x.sw 3) bH gN;simp only [Bool.and_eq_true,Bool.not_eq_true',zW,rq] at this;omega
theorem In.f_t0 {x:Lc} (h:In x) (F:x.rp=12∨x.rp=32):x.sp≠7∧x.rw=3:=by
 have:=h.imp (fun x=>Nat.beq x.rp 12 || Nat.beq x.rp 32) (fun x=>!(Nat.beq x.sp 7) && Nat.beq x.rw 3) bH gN;simp only [Bool.and_eq_true,Bool.not_eq_true',zW,rq] at this;omega
theorem vZ {cl:Ha→Option Nat} {hs:List Ha} {i n0:Nat} {h':Ha} (J:i<hs.length) (L:∀ n,cl h'=some n→n=n0∨cl (aD hs i)=some n) (fr:∀ j,j<hs.length→j≠i→cl (aD hs j)≠some n0)
  (us:∀ i j n,i<hs.length→j<hs.length→i≠j→cl (aD hs i)=some n→cl (aD hs j)≠some n) :
  ∀ a b n,a<(hs.set i h').length→b<(hs.set i h').length→a≠b→cl (aD (hs.set i h') a)=some n→cl (aD (hs.set i h') b)≠some n:=by
 intro a b n G H F h1 h2;rw [List.length_set] at G H;rw [dI h' J] at h1 h2;by_cases I:i=a
 ·subst I
  rw [if_pos rfl] at h1;rw [if_neg F] at h2;rcases L n h1 with e|e
  ·subst e;exact fr b H (fun e=>F e.symm) h2
  ·exact us i b n J H F e h2
 ·rw [if_neg I] at h1
  by_cases K:i=b
  ·subst K
   rw [if_pos rfl] at h2;rcases L n h2 with e|e
   ·subst e;exact fr a G (fun e=>I e.symm) h1
   ·exact us a i n G J F h1 e
  ·rw [if_neg K] at h2
   exact us a b n G H F h1 h2
theorem iN {cl:Ha→Option Nat} {A:Nat→Prop} {v v':Nat→Nat} {hs:List Ha} {i n0:Nat} {h':Ha} (J:i<hs.length) (K:∀ n,n<40→A (v n)→∃ i,i<hs.length∧cl (aD hs i)=some n) (O:∀ n,n≠n0→v' n=v n)
  (N:A (v' n0)→cl h'=some n0∨A (v n0)) (L:∀ n,cl (aD hs i)=some n→cl h'=some n∨¬ A (v' n)):∀ n,n<40→A (v' n)→∃ j,j<(hs.set i h').length∧cl (aD (hs.set i h') j)=some n:=by
 intro n G I;have H:A (v n)→∃ j,j<(hs.set i h').length∧cl (aD (hs.set i h') j)=some n:=fun h1=>by
  obtain ⟨j,M,e⟩:=K n G h1;refine ⟨j,by rw [List.length_set];exact M,?_⟩;rw [dI h' J];by_cases F:i=j
  ·subst F
   rw [if_pos rfl];rcases L n e with h2|h2
   ·exact h2
   ·exact absurd I h2
  ·rw [if_neg F];exact e
 by_cases e:n=n0
 ·subst e
  rcases N I with h|h
  ·exact ⟨i,by rw [List.length_set];exact J,by rw [dI h' J,if_pos rfl];exact h⟩
  ·exact H h
 ·rw [O n e] at I;exact H I
theorem Q.takeS {c:Ch} {hs:List Ha} {g:Gh} {i n0:Nat} {h':Ha} (q:Q c hs g) (K:i<hs.length) (V:n0<40) (e0:c.sent=(n0:Int))
  (k:(aD hs i).code=1) (p:(aD hs i).pos=1) (X:h'.code=1) (p':h'.pos=2) (ce:h'.cell=(n0:Int)) :
  Q { c with sent:=c.sent+1 } (hs.set i h') { g.put n0 { g.lc n0 with sp:=2 } with el:=fun m=>if m=n0 then h'.elem else g.el m }:=by
 have z:(g.lc n0).sp=0:=by
  have:=q.cS n0 V;by_cases e:(g.lc n0).sp=0
  ·exact e
  ·have:=this.1 e;omega
 obtain ⟨u1,u2,u3,u4,u5,u6⟩:=(q.way n0 V).f_none z;have fr:∀ j,j<hs.length→j≠i→sc (aD hs j)≠some n0:=fun j U _ h=>by
  have:=((q.hand j U).sc_at h).2.1;omega
 generalize O:({ g.put n0 { g.lc n0 with sp:=2 } with el:=fun m=>if m=n0 then h'.elem else g.el m }:Gh)=g';have L:∀ m,m≠n0→g'.lc m=g.lc m:=fun m hm=>by rw [← O];exact ji g _ hm
 have I:g'.lc n0={ g.lc n0 with sp:=2 }:=by rw [← O];exact gu g n0 _
 have J:g'.sid=g.sid:=by rw [← O];rfl
 have M:g'.rid=g.rid:=by rw [← O];rfl
 have E:∀ m,m≠n0→g'.el m=g.el m:=fun m hm=>by rw [← O];exact if_neg hm
 have E0:g'.el n0=h'.elem:=by rw [← O];exact if_pos rfl
 have T:∀ m,(g'.lc m).rp=(g.lc m).rp:=fun m=>if e:m=n0 then (by subst e;rw [I]) else mr
 have R:∀ m,(g'.lc m).gp=(g.lc m).gp:=fun m=>if e:m=n0 then (by subst e;rw [I]) else mr
 have H:∀ m,(g'.lc m).sw=(g.lc m).sw:=fun m=>if e:m=n0 then (by subst e;rw [I]) else mr
 have G:∀ m,(g'.lc m).rw=(g.lc m).rw:=fun m=>if e:m=n0 then (by subst e;rw [I]) else mr
 have s':sc h'=some n0:=sc_at X tO ce;have hy:In { g.lc n0 with sp:=2 }:=(q.way n0 V).s_take z
 refine ⟨q.len,?_,?_,?_,?_,?_,?_,?_,?_,vZ (cl:=sc) (n0:=n0) K (fun n h=>.inl NY) fr q.us,claims (cl:=rc) K (fun n h=>by rw [jr X] at h;cases h) q.ur,claims (cl:=gc) K (fun n h=>by rw [uV X] at h;cases h) q.ug,?_,?_,?_,?_,?_⟩
 ·intro n F
  by_cases e:n=n0
  ·subst e;rw [I];exact hy
  ·rw [L n e];exact q.way n F
 ·intro n F
  by_cases e:n=n0
  ·subst e;rw [I];show (2:Nat)≠0↔(n:Int)<c.sent+1;exact ⟨fun _=>by omega,fun _=>by omega⟩
  ·rw [L n e,q.cS n F];show _↔(n:Int)<c.sent+1;omega
 ·intro n F;rw [T];exact q.cR n F
 ·intro n F;rw [R];exact q.cE n F
 ·intro n F
  obtain ⟨Y,Z,p3,p4⟩:=q.cell n F;by_cases e:n=n0
  ·subst e
   refine ⟨?_,?_,?_,?_⟩ <;> rw [I]
   ·exact Y
   ·rw [J];exact Z
   ·rw [M];exact p3
   ·intro _ h;exact absurd rfl h
  ·refine ⟨?_,?_,?_,?_⟩ <;> rw [L n e]
   ·exact Y
   ·rw [J];exact Z
   ·rw [M];exact p3
   ·rw [E n e];exact p4
 ·intro n F
  obtain ⟨Y,Z⟩:=q.word n F;refine ⟨?_,?_⟩
  ·rw [H,J];exact Y
  ·rw [G,M];exact Z
 ·refine ⟨?_,?_,?_⟩
  ·intro n m;rw [H,H,J];exact q.ids.ss n m
  ·intro n m;rw [G,G,M];exact q.ids.rr n m
  ·intro n m;rw [H,G,J,M];exact q.ids.sr n m
 ·intro j U
  rw [List.length_set] at U;rw [dI h' K];by_cases N:i=j
  ·rw [if_pos N];exact .sL n0 V X ce E0 p' (by rw [I])
  ·rw [if_neg N]
   refine (q.hand j U).frame ?_ ?_ ?_
   ·intro n F
    have e:n≠n0:=fun e=>fr j U (fun e=>N e.symm) (e ▸ F)
    rw [L n e,E n e,J,M];exact ⟨rfl,rfl,fun _=>rfl,fun _=>rfl⟩
   ·intro n F
    rw [T,J,M];refine ⟨rfl,fun _=>rfl,fun _=>rfl,fun h=>?_⟩;by_cases e:n=n0
    ·subst e;omega
    ·exact E n e
   ·intro n F
    rw [R,J];exact ⟨rfl,fun _=>rfl⟩
 ·exact iN (cl:=sc) (A:=gJ) (v:=fun n=>(g.lc n).sp) (v':=fun n=>(g'.lc n).sp) K q.aS (fun n e=>by rw [L n e]) (fun _=>.inl s') (fun n h=>by rw [mU tO] at h;cases h)
 ·exact iN (cl:=rc) (A:=gL) (v:=fun n=>(g.lc n).rp) (v':=fun n=>(g'.lc n).rp) (n0:=n0) K q.aR_ (fun n _=>T n) (fun h=>.inr (by rw [T] at h;exact h)) (fun n h=>by rw [jr k] at h;cases h)
 ·exact iN (cl:=gc) (A:=iM) (v:=fun n=>(g.lc n).gp) (v':=fun n=>(g'.lc n).gp) (n0:=n0) K q.aG_ (fun n _=>R n) (fun h=>.inr (by rw [R] at h;exact h)) (fun n h=>by rw [uV k] at h;cases h)
 ·rw [q.wc]
  exact (mR fun m _=>by show wC (g'.lc m)=wC (g.lc m);unfold wC;rw [H,G]).symm
 ·have e1:=pX h' K
  have e2:qJ g'=qJ g:=mR fun m _=>by show aC (g'.lc m)=aC (g.lc m);unfold aC;rw [T,R]
  have f1:pc h'=0:=by simp [pc,p']
  have f2:pc (aD hs i)=0:=by simp [pc,p]
  have e3:p16 (hs.set i h')=p16 hs:=tO;rw [e2,e3];exact q.cnt
theorem Q.takeR {c:Ch} {hs:List Ha} {g:Gh} {i n0:Nat} {h':Ha} (q:Q c hs g) (I:i<hs.length) (R:n0<40) (e0:c.got=(n0:Int))
  (k:(aD hs i).code=2) (p:(aD hs i).pos=9) (T:h'.code=2) (V:h'.pos=10) (U:h'.cell=(n0:Int)) :
  Q { c with got:=c.got+1 } (hs.set i h') (g.put n0 { g.lc n0 with rp:=10 }):=by
 have z:(g.lc n0).rp=0:=by
  have:=q.cR n0 R;by_cases e:(g.lc n0).rp=0
  ·exact e
  ·have:=this.1 e;omega
 have fr:∀ j,j<hs.length→j≠i→rc (aD hs j)≠some n0:=fun j M _ h=>absurd z ((q.hand j M).rc_at h).2
 generalize K:g.put n0 { g.lc n0 with rp:=10 }=g'
 have L:∀ m,m≠n0→g'.lc m=g.lc m:=fun m hm=>by rw [← K];exact ji g _ hm
 have L0:g'.lc n0={ g.lc n0 with rp:=10 }:=by rw [← K];exact gu g n0 _
 have Si:g'.sid=g.sid:=by rw [← K];rfl
 have Ri:g'.rid=g.rid:=by rw [← K];rfl
 have E:g'.el=g.el:=by rw [← K];rfl
 have O:∀ m,(g'.lc m).sp=(g.lc m).sp:=fun m=>if e:m=n0 then yu else mr
 have N:∀ m,(g'.lc m).gp=(g.lc m).gp:=fun m=>if e:m=n0 then yu else mr
 have H:∀ m,(g'.lc m).sw=(g.lc m).sw:=fun m=>if e:m=n0 then yu else mr
 have G:∀ m,(g'.lc m).rw=(g.lc m).rw:=fun m=>if e:m=n0 then yu else mr
 have X:∀ m,aC (g'.lc m)=aC (g.lc m):=fun m=>if e:m=n0 then (by subst e;rw [L0];unfold aC;rw [z];rfl) else mr
 have s':rc h'=some n0:=rc_at T tO U;have hy:In { g.lc n0 with rp:=10 }:=(q.way n0 R).r_take z
 refine ⟨q.len,?_,?_,?_,?_,?_,?_,?_,?_,claims (cl:=sc) I (fun n h=>by rw [jg T] at h;cases h) q.us,vZ (cl:=rc) (n0:=n0) I (fun n h=>.inl NY) fr q.ur,claims (cl:=gc) I (fun n h=>by rw [kK tO] at h;cases h) q.ug,?_,?_,?_,?_,?_⟩
 ·intro n F
  by_cases e:n=n0
  ·subst e;rw [L0];exact hy
  ·rw [L n e];exact q.way n F
 ·intro n F;rw [O];exact q.cS n F
 ·intro n F
  by_cases e:n=n0
  ·subst e;rw [L0];show (10:Nat)≠0↔(n:Int)<c.got+1;exact ⟨fun _=>by omega,fun _=>by omega⟩
  ·rw [L n e,q.cR n F];show _↔(n:Int)<c.got+1;omega
 ·intro n F;rw [N];exact q.cE n F
 ·intro n F
  obtain ⟨p1,p2,p3,p4⟩:=q.cell n F;exact U8
 ·intro n F
  obtain ⟨p1,p2⟩:=q.word n F;refine ⟨?_,?_⟩
  ·rw [H,Si];exact p1
  ·rw [G,Ri];exact p2
 ·refine ⟨?_,?_,?_⟩
  ·intro n m;rw [H,H,Si];exact q.ids.ss n m
  ·intro n m;rw [G,G,Ri];exact q.ids.rr n m
  ·intro n m;rw [H,G,Si,Ri];exact q.ids.sr n m
 ·intro j M
  rw [List.length_set] at M;rw [dI h' I];by_cases J:i=j
  ·rw [if_pos J];exact .rV n0 R T U V (by rw [L0])
  ·rw [if_neg J]
   refine (q.hand j M).frame ?_ ?_ ?_
   ·intro n F;rw [O,Si,Ri,E];exact ⟨rfl,rfl,fun _=>rfl,fun _=>rfl⟩
   ·intro n F
    have e:n≠n0:=fun e=>fr j M (fun e=>J e.symm) (e ▸ F)
    rw [L n e,Si,Ri,E];exact ⟨rfl,fun _=>rfl,fun _=>rfl,fun _=>rfl⟩
   ·intro n F;rw [N,Si];exact ⟨rfl,fun _=>rfl⟩
 ·exact iN (cl:=sc) (A:=gJ) (v:=fun n=>(g.lc n).sp) (v':=fun n=>(g'.lc n).sp) (n0:=n0) I q.aS (fun n _=>O n) (fun h=>.inr (by rw [O] at h;exact h)) (fun n h=>by rw [jg k] at h;cases h)
 ·exact iN (cl:=rc) (A:=gL) (v:=fun n=>(g.lc n).rp) (v':=fun n=>(g'.lc n).rp) I q.aR_ (fun n e=>by rw [L n e]) (fun _=>.inl s') (fun n h=>by rw [iO tO] at h;cases h)
 ·exact iN (cl:=gc) (A:=iM) (v:=fun n=>(g.lc n).gp) (v':=fun n=>(g'.lc n).gp) (n0:=n0) I q.aG_ (fun n _=>N n) (fun h=>.inr (by rw [N] at h;exact h)) (fun n h=>by rw [kK tO] at h;cases h)
 ·rw [q.wc]
  exact (mR fun m _=>by show wC (g'.lc m)=wC (g.lc m);unfold wC;rw [H,G]).symm
 ·have e1:=pX h' I
  have Y:qJ g'=qJ g:=mR fun m _=>X m
  have f1:pc h'=0:=by simp [pc,V]
  have f2:pc (aD hs i)=0:=by simp [pc,p]
  have Z:p16 (hs.set i h')=p16 hs:=tO;rw [Y,Z];exact q.cnt
theorem Gp.frame {g g':Gh} {h h':Ha} {n:Nat} (b:Gp g h n) (F:h'.cell=h.cell) (G:h'.nxt=h.nxt) (H:h'.out=h.out) (I:h'.mine=h.mine) (J:(g'.lc n).rp=(g.lc n).rp) (K:g'.rid n=g.rid n) (L:g'.el n=g.el n):Gp g' h' n:=by
 obtain ⟨a,b,d⟩:=b;refine ⟨a,F.trans b,?_⟩;rw [G,H,I,J,K,L];exact d
theorem Q.takeG {c:Ch} {hs:List Ha} {g:Gh} {i n n0:Nat} {h':Ha} (q:Q c hs g) (I:i<hs.length) (U:n0<40) (e0:c.fin=(n0:Int)) (M:c.cap≠0)
  (k:(aD hs i).code=2) (p:(aD hs i).pos=16) (b:Gp g (aD hs i) n) (T:h'.code=2) (X:h'.pos=17) (gr:h'.grow=(n0:Int)) (V:h'.cell=(aD hs i).cell) (e2:h'.nxt=(aD hs i).nxt) (e3:h'.out=(aD hs i).out) (e4:h'.mine=(aD hs i).mine) :
  Q { c with fin:=c.fin+1 } (hs.set i h') (g.put n0 { g.lc n0 with gp:=17 }):=by
 have z:(g.lc n0).gp=0:=by
  have:=q.cE n0 U;by_cases e:(g.lc n0).gp=0
  ·exact e
  ·have:=this.1 e;omega
 have fr:∀ j,j<hs.length→j≠i→gc (aD hs j)≠some n0:=fun j O _ h=>by
  have:=((q.hand j O).gc_at h).2.1;omega
 generalize N:g.put n0 { g.lc n0 with gp:=17 }=g'
 have L:∀ m,m≠n0→g'.lc m=g.lc m:=fun m hm=>by rw [← N];exact ji g _ hm
 have L0:g'.lc n0={ g.lc n0 with gp:=17 }:=by rw [← N];exact gu g n0 _
 have Si:g'.sid=g.sid:=by rw [← N];rfl
 have Ri:g'.rid=g.rid:=by rw [← N];rfl
 have E:g'.el=g.el:=by rw [← N];rfl
 have R:∀ m,(g'.lc m).sp=(g.lc m).sp:=fun m=>if e:m=n0 then yu else mr
 have K:∀ m,(g'.lc m).rp=(g.lc m).rp:=fun m=>if e:m=n0 then yu else mr
 have H:∀ m,(g'.lc m).sw=(g.lc m).sw:=fun m=>if e:m=n0 then yu else mr
 have G:∀ m,(g'.lc m).rw=(g.lc m).rw:=fun m=>if e:m=n0 then yu else mr
 have Z:∀ m,aC (g'.lc m)=aC (g.lc m):=fun m=>if e:m=n0 then (by subst e;rw [L0];unfold aC;rw [z];rfl) else mr
 have s':gc h'=some n0:=gc_at T tO tO gr;have Y:rc (aD hs i)=some n:=rc_at k tO b.2.1;have r':rc h'=some n:=rc_at T tO (V.trans b.2.1);have hy:In { g.lc n0 with gp:=17 }:=(q.way n0 U).g_take z
 refine ⟨q.len,?_,?_,?_,?_,?_,?_,?_,?_,claims (cl:=sc) I (fun n h=>by rw [jg T] at h;cases h) q.us,claims (cl:=rc) I (fun m h=>by rw [r'] at h;rw [Y];exact h) q.ur,vZ (cl:=gc) (n0:=n0) I (fun n h=>.inl NY) fr q.ug,?_,?_,?_,?_,?_⟩
 ·intro n F
  by_cases e:n=n0
  ·subst e;rw [L0];exact hy
  ·rw [L n e];exact q.way n F
 ·intro n F;rw [R];exact q.cS n F
 ·intro n F;rw [K];exact q.cR n F
 ·intro n F
  by_cases e:n=n0
  ·subst e;rw [L0];show (17:Nat)≠0↔(n:Int)<c.fin+1;exact ⟨fun _=>by omega,fun _=>by omega⟩
  ·rw [L n e,q.cE n F];show _↔(n:Int)<c.fin+1;omega
 ·intro n F
  obtain ⟨p1,p2,p3,p4⟩:=q.cell n F;exact U8
 ·intro n F
  obtain ⟨p1,p2⟩:=q.word n F;refine ⟨?_,?_⟩
  ·rw [H,Si];exact p1
  ·rw [G,Ri];exact p2
 ·refine ⟨?_,?_,?_⟩
  ·intro n m;rw [H,H,Si];exact q.ids.ss n m
  ·intro n m;rw [G,G,Ri];exact q.ids.rr n m
  ·intro n m;rw [H,G,Si,Ri];exact q.ids.sr n m
 ·intro j O
  rw [List.length_set] at O;rw [dI h' I];by_cases J:i=j
  ·rw [if_pos J];exact .gF n n0 T (b.frame V e2 e3 e4 (K n) (by rw [Ri]) (by rw [E])) U gr X (by rw [L0])
  ·rw [if_neg J]
   refine (q.hand j O).frame ?_ ?_ ?_
   ·intro n F;rw [R,Si,Ri,E];exact ⟨rfl,rfl,fun _=>rfl,fun _=>rfl⟩
   ·intro n F;rw [K,Si,Ri,E];exact ⟨rfl,fun _=>rfl,fun _=>rfl,fun _=>rfl⟩
   ·intro n F
    have e:n≠n0:=fun e=>fr j O (fun e=>J e.symm) (e ▸ F)
    rw [L n e,Si];exact ⟨rfl,fun _=>rfl⟩
 ·exact iN (cl:=sc) (A:=gJ) (v:=fun n=>(g.lc n).sp) (v':=fun n=>(g'.lc n).sp) (n0:=n0) I q.aS (fun n _=>R n) (fun h=>.inr (by rw [R] at h;exact h)) (fun n h=>by rw [jg k] at h;cases h)
 ·exact iN (cl:=rc) (A:=gL) (v:=fun n=>(g.lc n).rp) (v':=fun n=>(g'.lc n).rp) (n0:=n0) I q.aR_ (fun n _=>K n) (fun h=>.inr (by rw [K] at h;exact h)) (fun m h=>.inl (by rw [Y] at h;rw [r'];exact h))
 ·exact iN (cl:=gc) (A:=iM) (v:=fun n=>(g.lc n).gp) (v':=fun n=>(g'.lc n).gp) I q.aG_ (fun n e=>by rw [L n e]) (fun _=>.inl s') (fun n h=>by rw [kK tO] at h;cases h)
 ·rw [q.wc]
  exact (mR fun m _=>by show wC (g'.lc m)=wC (g.lc m);unfold wC;rw [H,G]).symm
 ·have e5:=pX h' I
  have e6:qJ g'=qJ g:=mR fun m _=>Z m
  have f1:pc h'=0:=by simp [pc,X]
  have f2:pc (aD hs i)=1:=by simp [pc,p]
  rw [e6];show (c.cap=0∧c.fin+1=0)∨(0<c.cap∧c.fin+1+p16 (hs.set i h')≤c.cap+qJ g∧(c.fin+1<40→c.fin+1+p16 (hs.set i h')=c.cap+qJ g));rcases q.cnt with h|⟨h1,h2,h3⟩
  ·exact absurd h.1 M
  ·exact .inr ⟨h1,by omega,fun hf=>by have:=h3 tO;omega⟩
theorem Q.idle {c:Ch} {hs:List Ha} {g:Gh} {i:Nat} {h':Ha} (q:Q c hs g) (F:i<hs.length) (R:HP g h') (I:sc (aD hs i)=none) (J:rc (aD hs i)=none) (T:(aD hs i).pos<16) (L:sc h'=none) (M:rc h'=none) (U:h'.pos<16):Q c (hs.set i h') g:=by
 have K:gc (aD hs i)=none:=kK tO;have N:gc h'=none:=kK tO;refine ⟨q.len,q.way,q.cS,q.cR,q.cE,q.cell,q.word,q.ids,?_,claims (cl:=sc) F (fun n h=>by rw [L] at h;cases h) q.us,claims (cl:=rc) F (fun n h=>by rw [M] at h;cases h) q.ur,claims (cl:=gc) F (fun n h=>by rw [N] at h;cases h) q.ug,?_,?_,?_,q.wc,?_⟩
 ·intro j H
  rw [List.length_set] at H;rw [dI h' F];by_cases G:i=j
  ·rw [if_pos G];exact R
  ·rw [if_neg G];exact q.hand j H
 ·exact iN (cl:=sc) (A:=gJ) (v:=fun n=>(g.lc n).sp) (v':=fun n=>(g.lc n).sp) (n0:=0) F q.aS (fun n _=>rfl) .inr (fun n h=>by rw [I] at h;cases h)
 ·exact iN (cl:=rc) (A:=gL) (v:=fun n=>(g.lc n).rp) (v':=fun n=>(g.lc n).rp) (n0:=0) F q.aR_ (fun n _=>rfl) .inr (fun n h=>by rw [J] at h;cases h)
 ·exact iN (cl:=gc) (A:=iM) (v:=fun n=>(g.lc n).gp) (v':=fun n=>(g.lc n).gp) (n0:=0) F q.aG_ (fun n _=>rfl) .inr (fun n h=>by rw [K] at h;cases h)
 ·have V:=pX h' F
  have X:pc h'=0:=by simp [pc];omega
  have Y:pc (aD hs i)=0:=by simp [pc];omega
  have O:p16 (hs.set i h')=p16 hs:=tO;rw [O];exact q.cnt
theorem Gd {g:Gh} {h:Ha} {n:Nat} (k:h.code=2) (b:Gp g h n):((bF h).pos=0∧(g.lc n).rp=70)∨(bF h={ h with pos:=23 }∧(g.lc n).rp=23∧h.mine=g.rid n)∨((bF h).code=2∧(bF h).pos=9∧(g.lc n).rp=73):=by
 obtain ⟨_,_,F|F|F⟩:=b
 ·exact .inl ⟨by simp [bF,F.1,aM],F.2.1⟩
 ·exact .inr (.inl ⟨by simp [bF,F.1],F.2.1,F.2.2⟩)
 ·refine .inr (.inr ?_)
  rw [show bF h=anew h by simp [bF,F.1]]
  exact ⟨k,by simp [anew,begun,k],F.2⟩
theorem HP.grown {g g':Gh} {h:Ha} {n:Nat} (k:h.code=2) (b:Gp g h n) (F:(g'.lc n).rp=(g.lc n).rp) (G:g'.rid n=g.rid n):HP g' (bF h):=by
 rcases Gd k b with ⟨a,_⟩|⟨a,d,e⟩|⟨a,d,_⟩
 ·exact .rest a
 ·rw [a];exact .rW n b.1 k b.2.1 rfl (F.trans d) (e.trans G.symm)
 ·exact .r0 a d
theorem Q.free {c:Ch} {hs:List Ha} {g:Gh} {i n:Nat} (q:Q c hs g) (H:i<hs.length) (k:(aD hs i).code=2) (p:(aD hs i).pos=16) (b:Gp g (aD hs i) n) (V:c.cap=0∨c.fin=40):Q c (hs.set i (bF (aD hs i))) g:=by
 have K:rc (aD hs i)=some n:=rc_at k tO b.2.1;have L:gc (aD hs i)=none:=kK tO;have R:=jg (h:=aD hs i) k;have N:HP g (bF (aD hs i)):=HP.grown k b rfl rfl;have G:=Gd k b;generalize bF (aD hs i)=h' at *;have s':sc h'=none:=by
  rcases G with ⟨a,_⟩|⟨a,_⟩|⟨a,_⟩
  ·exact mU tO
  ·rw [a];exact jg k
  ·exact jg a
 have g':gc h'=none:=by
  rcases G with ⟨a,_⟩|⟨a,_⟩|⟨_,a,_⟩
  ·exact kK tO
  ·rw [a];exact kK (.inr (by show (22:Int)<23;omega))
  ·exact kK tO
 have p':pc h'=0:=by
  rcases G with ⟨a,_⟩|⟨a,_⟩|⟨_,a,_⟩
  ·simp [pc,a]
  ·rw [a];simp [pc]
  ·simp [pc,a]
 have rk:∀ m,rc h'=some m→rc (aD hs i)=some m:=fun m F=>by
  rcases G with ⟨a,_⟩|⟨a,_⟩|⟨_,a,_⟩
  ·rw [iO tO] at F;cases F
  ·rw [a] at F
   rw [K];rw [← F];exact (rc_at (h:={ aD hs i with pos:=23 }) k (by show (10:Int)≤23;omega) b.2.1).symm
  ·rw [iO tO] at F;cases F
 have O:∀ m,rc (aD hs i)=some m→rc h'=some m∨¬ gL (g.lc m).rp:=fun m F=>by
  rw [K] at F;obtain rfl:=Option.some.inj F;rcases G with ⟨_,a⟩|⟨a,_⟩|⟨_,_,a⟩
  ·exact .inr (by rw [a];unfold gL;omega)
  ·exact .inl (by rw [a];exact rc_at (h:={ aD hs i with pos:=23 }) k (by show (10:Int)≤23;omega) b.2.1)
  ·exact .inr (by rw [a];unfold gL;omega)
 refine ⟨q.len,q.way,q.cS,q.cR,q.cE,q.cell,q.word,q.ids,?_,claims (cl:=sc) H (fun n h=>by rw [s'] at h;cases h) q.us,claims (cl:=rc) H rk q.ur,claims (cl:=gc) H (fun n h=>by rw [g'] at h;cases h) q.ug,?_,?_,?_,q.wc,?_⟩
 ·intro j J
  rw [List.length_set] at J;rw [dI h' H];by_cases I:i=j
  ·rw [if_pos I];exact N
  ·rw [if_neg I];exact q.hand j J
 ·exact iN (cl:=sc) (A:=gJ) (v:=fun n=>(g.lc n).sp) (v':=fun n=>(g.lc n).sp) (n0:=0) H q.aS (fun n _=>rfl) .inr (fun n h=>by rw [R] at h;cases h)
 ·exact iN (cl:=rc) (A:=gL) (v:=fun n=>(g.lc n).rp) (v':=fun n=>(g.lc n).rp) (n0:=0) H q.aR_ (fun n _=>rfl) .inr O
 ·exact iN (cl:=gc) (A:=iM) (v:=fun n=>(g.lc n).gp) (v':=fun n=>(g.lc n).gp) (n0:=0) H q.aG_ (fun n _=>rfl) .inr (fun n h=>by rw [L] at h;cases h)
 ·have T:=pX h' H
  have U:pc (aD hs i)=1:=by simp [pc,p]
  rcases q.cnt with h|⟨h1,h2,h3⟩
  ·exact .inl h
  ·exact .inr ⟨h1,by omega,fun M=>by omega⟩
theorem Q.waitS {c c':Ch} {hs:List Ha} {g:Gh} {i n0:Nat} {h':Ha} (q:Q c hs g) (M:i<hs.length) (Y:n0<40)
  (k:(aD hs i).code=1) (p:(aD hs i).pos=6) (ce:(aD hs i).cell=(n0:Int)) (zz:(g.lc n0).sp=16) (zs:(g.lc n0).s=0) (k':h'.code=1) (p':h'.pos=23) (X:h'.cell=(n0:Int)) (me:h'.mine=(c.words.length:Int)+1) (el:h'.elem=(aD hs i).elem)
  (kc:c'.cap=c.cap) (k1:c'.sent=c.sent) (k2:c'.got=c.got) (k3:c'.fin=c.fin) (cl:c'.cells.length=c.cells.length) (co:∀ n,n≠n0→aY c' n=aY c n) (cw:c'.words=c.words ++ [0]) (c0:aY c' n0=⟨3,(aY c n0).e,(c.words.length:Int)+1⟩) :
  Q c' (hs.set i h') { g.put n0 { g.lc n0 with s:=3,wt:=1,sp:=23,sw:=0 } with sid:=fun m=>if m=n0 then (c.words.length:Int)+1 else g.sid m }:=by
 obtain ⟨u1,u2,u3,u4,u5⟩:=(q.way n0 Y).f_p0 zz;have hy:=(q.way n0 Y).s_wait zz zs;have he:g.el n0=(aD hs i).elem:=by
  have H:=q.hand i M;have e1:=ce;have e2:=k;have e3:=p;generalize aD hs i=hx at *;cases H with
  | rest p=>omega
  | s0 k p=>omega
  | r0 k p=>omega
  | sL m F k c ee p q=>(obtain rfl:m=n0:=by omega);exact ee
  | sK m F k c ee p q=>(obtain rfl:m=n0:=by omega);exact ee
  | sE m F k c ee p q s=>(obtain rfl:m=n0:=by omega);exact ee
  | sM0 m F k c ee p q s N=>(obtain rfl:m=n0:=by omega);exact ee
  | sM1 m F k c ee p q s N=>(obtain rfl:m=n0:=by omega);exact ee
  | sP1 m F k c ee p q s=>(obtain rfl:m=n0:=by omega);exact ee
  | sP0 m F k c ee p q s N f2=>(obtain rfl:m=n0:=by omega);exact ee
  | sPk m F k c ee p q s N=>(obtain rfl:m=n0:=by omega);exact ee
  | sC m F k c ee p q w=>(obtain rfl:m=n0:=by omega);exact ee
  | sD m F k c ee p q=>(obtain rfl:m=n0:=by omega);exact ee
  | sW m F k c ee p q w=>(obtain rfl:m=n0:=by omega);exact ee
  | sm m F k c ee p q=>(obtain rfl:m=n0:=by omega);exact ee
  | rV m F k c p q=>omega
  | rS0 m F k c p q s=>omega
  | rS1 m F k c p q s=>omega
  | rT00 m F k c p q s N=>omega
  | rT01 m F k c p q s N=>omega
  | rT10 m F k c p q s N=>omega
  | rT11 m F k c p q s N=>omega
  | rT2 m F k c p q s o=>omega
  | rT3 m F k c p q s o w=>omega
  | rw m F k c p q o w=>omega
  | rf m F k c p q o=>omega
  | rl m F k c p q=>omega
  | rW m F k c p q w=>omega
  | rF m F k c p q w=>omega
  | rm m F k c p q=>omega
  | g m k b p=>omega
  | gF m m2 k b F r p q=>omega
  | gX m m2 k b F r p q=>omega
  | gU0 m m2 k b F r p q s=>omega
  | gU3 m m2 k b F r p q s w=>omega
  | gR m m2 k b F r p q w=>omega
  | gk m m2 k b F r p q=>omega
  | gl m m2 k b F r p q=>omega
 generalize U:({ g.put n0 { g.lc n0 with s:=3,wt:=1,sp:=23,sw:=0 } with sid:=fun m=>if m=n0 then (c.words.length:Int)+1 else g.sid m }:Gh)=g';have L:∀ m,m≠n0→g'.lc m=g.lc m:=fun m F=>by rw [← U];exact ji g _ F
 have K:g'.lc n0={ g.lc n0 with s:=3,wt:=1,sp:=23,sw:=0 }:=by rw [← U];exact gu g n0 _
 have I:∀ m,m≠n0→g'.sid m=g.sid m:=fun m F=>by rw [← U];exact if_neg F
 have R:g'.sid n0=(c.words.length:Int)+1:=by rw [← U];exact if_pos rfl
 have T:g'.rid=g.rid:=by rw [← U];rfl
 have E:g'.el=g.el:=by rw [← U];rfl
 have Lg:∀ m,(g'.lc m).gp=(g.lc m).gp:=fun m=>if e:m=n0 then (by subst e;rw [K]) else mr
 have Lr:∀ m,(g'.lc m).rp=(g.lc m).rp:=fun m=>if e:m=n0 then (by subst e;rw [K]) else mr
 have V:∀ m,(g'.lc m).rw=(g.lc m).rw:=fun m=>if e:m=n0 then (by subst e;rw [K]) else mr
 have wl:c'.words.length=c.words.length+1:=by rw [cw];simp
 have wa:∀ v:Int,1≤v→v≤c.words.length→dH c' v=dH c v:=fun v a b=>by
  unfold dH;rw [cw,List.getD_eq_getElem?_getD,List.getD_eq_getElem?_getD,List.getElem?_append_left tO]
 have wn:dH c' ((c.words.length:Int)+1)=0:=by
  unfold dH;rw [cw,List.getD_eq_getElem?_getD,show ((c.words.length:Int)+1 - 1).toNat=c.words.length by omega];simp
 have s0:sc (aD hs i)=some n0:=sc_at k tO ce;have s':sc h'=some n0:=sc_at k' tO X;refine ⟨cl.trans q.len,?_,?_,?_,?_,?_,?_,?_,?_,claims (cl:=sc) M (fun m h=>by rw [s'] at h;rw [s0];exact h) q.us,claims (cl:=rc) M (fun n h=>by rw [jr k'] at h;cases h) q.ur,claims (cl:=gc) M (fun n h=>by rw [uV k'] at h;cases h) q.ug,?_,?_,?_,?_,?_⟩
 ·intro n J
  by_cases e:n=n0
  ·subst e;rw [K];exact hy
  ·rw [L n e];exact q.way n J
 ·intro n J
  rw [k1,← q.cS n J];by_cases e:n=n0
  ·subst e;rw [K,zz];simp
  ·rw [L n e]
 ·intro n J
  rw [k2,← q.cR n J];rw [Lr]
 ·intro n J;rw [k3,Lg];exact q.cE n J
 ·intro n J
  obtain ⟨p1,p2,p3,p4⟩:=q.cell n J;by_cases e:n=n0
  ·subst e
   refine ⟨?_,?_,?_,?_⟩ <;> rw [c0,K]
   ·rfl
   ·intro _;exact R.symm
   ·intro h;exact absurd h (by show (1:Nat)≠2;omega)
   ·rw [E];intro _ _;exact p4 tO tO
  ·refine ⟨?_,?_,?_,?_⟩ <;> rw [co n e,L n e]
   ·exact p1
   ·rw [I n e];exact p2
   ·rw [T];exact p3
   ·rw [E];exact p4
 ·intro n J
  obtain ⟨p1,p2⟩:=q.word n J;refine ⟨?_,?_⟩
  ·by_cases e:n=n0
   ·subst e
    intro _;rw [R,K,wl];exact ⟨by omega,by omega,wn⟩
   ·rw [L n e,I n e]
    intro h;obtain ⟨a,b,d⟩:=p1 h;exact ⟨a,by omega,(wa _ a b).trans d⟩
  ·rw [V,T]
   intro h;obtain ⟨a,b,d⟩:=p2 h;exact ⟨a,by omega,(wa _ a b).trans d⟩
 ·have B:∀ m,m<40→m≠n0→(g'.lc m).sw≠3→g.sid m≤c.words.length:=fun m F e h=>by rw [L m e] at h;exact ((q.word m F).s h).2.1
  have D:∀ m,m<40→(g'.lc m).rw≠3→g.rid m≤c.words.length:=fun m F h=>by rw [V] at h;exact ((q.word m F).r h).2.1
  refine ⟨?_,?_,?_⟩
  ·intro n m J F G h1 h2
   by_cases en:n=n0
   ·subst en
    have Z:m≠n:=fun e=>G e.symm
    rw [R,I m Z];have:=B m F Z h2;omega
   ·by_cases em:m=n0
    ·subst em
     rw [R,I n G];have:=B n J G h1;omega
    ·rw [L n en] at h1
     rw [L m em] at h2;rw [I n en,I m em];exact q.ids.ss n m J F G h1 h2
  ·intro n m;rw [V,V,T];exact q.ids.rr n m
  ·intro n m J F h1 h2
   rw [T];by_cases en:n=n0
   ·subst en
    rw [R];have:=D m F h2;omega
   ·rw [I n en]
    rw [L n en] at h1;rw [V] at h2;exact q.ids.sr n m J F h1 h2
 ·intro j hj
  rw [List.length_set] at hj;rw [dI h' M];by_cases O:i=j
  ·rw [if_pos O];exact .sW n0 Y k' X (by rw [E,el];exact he) p' (by rw [K]) (me.trans R.symm)
  ·rw [if_neg O]
   have G:sc (aD hs j)≠some n0:=fun h=>q.us i j n0 M hj O s0 h
   refine (q.hand j hj).frame ?_ ?_ ?_
   ·intro n J
    have e:n≠n0:=fun e=>G (e ▸ J)
    rw [L n e,E,I n e,T];exact ⟨rfl,rfl,fun _=>rfl,fun _=>rfl⟩
   ·intro n J
    rw [Lr,T,E];refine ⟨rfl,fun _=>rfl,fun h=>?_,fun _=>rfl⟩;by_cases e:n=n0
    ·subst e;omega
    ·exact I n e
   ·intro n J
    rw [Lg];refine ⟨rfl,fun h=>?_⟩;by_cases e:n=n0
    ·subst e;omega
    ·exact I n e
 ·exact iN (cl:=sc) (A:=gJ) (v:=fun n=>(g.lc n).sp) (v':=fun n=>(g'.lc n).sp) M q.aS (fun n e=>by rw [L n e]) (fun _=>.inl s') (fun m h=>.inl (by rw [s0] at h;rw [s'];exact h))
 ·exact iN (cl:=rc) (A:=gL) (v:=fun n=>(g.lc n).rp) (v':=fun n=>(g'.lc n).rp) (n0:=n0) M q.aR_ (fun n _=>Lr n) (fun h=>.inr (by rw [Lr] at h;exact h)) (fun n h=>by rw [jr k] at h;cases h)
 ·exact iN (cl:=gc) (A:=iM) (v:=fun n=>(g.lc n).gp) (v':=fun n=>(g'.lc n).gp) (n0:=n0) M q.aG_ (fun n _=>Lg n) (fun h=>.inr (by rw [Lg] at h;exact h)) (fun n h=>by rw [uV k] at h;cases h)
 ·rw [wl,q.wc]
  have:=oM (f:=fun m=>wC (g.lc m)) (f':=fun m=>wC (g'.lc m)) Y (fun m _ G=>by show wC (g'.lc m)=wC (g.lc m);rw [L m G]);have e1:wC (g'.lc n0)=wC (g.lc n0)+1:=by
   rw [K];unfold wC;rw [u5];simp <;> omega
  omega
 ·have e1:=pX h' M
  have f2:pc (aD hs i)=0:=by simp [pc,p]
  have N:pc h'=0:=by simp [pc,p']
  have e2:=oM (f:=fun m=>aC (g.lc m)) (f':=fun m=>aC (g'.lc m)) Y (fun m _ G=>by show aC (g'.lc m)=aC (g.lc m);rw [L m G]);have e3:aC (g'.lc n0)=aC (g.lc n0)+0:=by
   rw [K];rfl
  have e4:qJ g'=qJ g+0:=by unfold qJ;omega
  rw [kc,k3,e4];rcases q.cnt with h|⟨h1,h2,h3⟩
  ·exact .inl h
  ·exact .inr ⟨h1,by omega,fun hf=>by have:=h3 hf;omega⟩
theorem Q.waitR {c c':Ch} {hs:List Ha} {g:Gh} {i n0:Nat} {h':Ha} (q:Q c hs g) (K:i<hs.length) (Z:n0<40)
  (k:(aD hs i).code=2) (p:(aD hs i).pos=12) (ce:(aD hs i).cell=(n0:Int)) (zz:(g.lc n0).rp=12∨(g.lc n0).rp=32) (hy:In { g.lc n0 with s:=4,wt:=2,rp:=23,rw:=0 }) (k':h'.code=2) (p':h'.pos=16) (U:h'.cell=(n0:Int)) (me:h'.mine=(c.words.length:Int)+1) (nx:h'.nxt=1)
  (kc:c'.cap=c.cap) (k1:c'.sent=c.sent) (k2:c'.got=c.got) (k3:c'.fin=c.fin) (cl:c'.cells.length=c.cells.length) (co:∀ n,n≠n0→aY c' n=aY c n) (cw:c'.words=c.words ++ [0]) (c0:aY c' n0=⟨4,(aY c n0).e,(c.words.length:Int)+1⟩) :
  Q c' (hs.set i h') { g.put n0 { g.lc n0 with s:=4,wt:=2,rp:=23,rw:=0 } with rid:=fun m=>if m=n0 then (c.words.length:Int)+1 else g.rid m }:=by
 obtain ⟨u1,u5⟩:=(q.way n0 Z).f_t0 zz;generalize R:({ g.put n0 { g.lc n0 with s:=4,wt:=2,rp:=23,rw:=0 } with rid:=fun m=>if m=n0 then (c.words.length:Int)+1 else g.rid m }:Gh)=g';have L:∀ m,m≠n0→g'.lc m=g.lc m:=fun m H=>by rw [← R];exact ji g _ H
 have J:g'.lc n0={ g.lc n0 with s:=4,wt:=2,rp:=23,rw:=0 }:=by rw [← R];exact gu g n0 _
 have I:∀ m,m≠n0→g'.rid m=g.rid m:=fun m H=>by rw [← R];exact if_neg H
 have O:g'.rid n0=(c.words.length:Int)+1:=by rw [← R];exact if_pos rfl
 have M:g'.sid=g.sid:=by rw [← R];rfl
 have E:g'.el=g.el:=by rw [← R];rfl
 have X:∀ m,(g'.lc m).gp=(g.lc m).gp:=fun m=>if e:m=n0 then (by subst e;rw [J]) else mr
 have Y:∀ m,(g'.lc m).sp=(g.lc m).sp:=fun m=>if e:m=n0 then (by subst e;rw [J]) else mr
 have T:∀ m,(g'.lc m).sw=(g.lc m).sw:=fun m=>if e:m=n0 then (by subst e;rw [J]) else mr
 have wl:c'.words.length=c.words.length+1:=by rw [cw];simp
 have wa:∀ v:Int,1≤v→v≤c.words.length→dH c' v=dH c v:=fun v a b=>by
  unfold dH;rw [cw,List.getD_eq_getElem?_getD,List.getD_eq_getElem?_getD,List.getElem?_append_left tO]
 have wn:dH c' ((c.words.length:Int)+1)=0:=by
  unfold dH;rw [cw,List.getD_eq_getElem?_getD,show ((c.words.length:Int)+1 - 1).toNat=c.words.length by omega];simp
 have s0:rc (aD hs i)=some n0:=rc_at k tO ce;have s':rc h'=some n0:=rc_at k' tO U;refine ⟨cl.trans q.len,?_,?_,?_,?_,?_,?_,?_,?_,claims (cl:=sc) K (fun n h=>by rw [jg k'] at h;cases h) q.us,claims (cl:=rc) K (fun m h=>by rw [s'] at h;rw [s0];exact h) q.ur,claims (cl:=gc) K (fun n h=>by rw [kK tO] at h;cases h) q.ug,?_,?_,?_,?_,?_⟩
 ·intro n F
  by_cases e:n=n0
  ·subst e;rw [J];exact hy
  ·rw [L n e];exact q.way n F
 ·intro n F
  rw [k1,← q.cS n F];rw [Y]
 ·intro n F
  rw [k2,← q.cR n F];by_cases e:n=n0
  ·subst e;rw [J];show (23:Nat)≠0↔_;exact ⟨fun _=>by omega,fun _=>by omega⟩
  ·rw [L n e]
 ·intro n F;rw [k3,X];exact q.cE n F
 ·intro n F
  obtain ⟨p1,p2,p3,p4⟩:=q.cell n F;by_cases e:n=n0
  ·subst e
   refine ⟨?_,?_,?_,?_⟩ <;> rw [c0,J]
   ·rfl
   ·intro h;exact absurd h (by show (2:Nat)≠1;omega)
   ·intro _;exact O.symm
   ·rw [E];exact p4
  ·refine ⟨?_,?_,?_,?_⟩ <;> rw [co n e,L n e]
   ·exact p1
   ·rw [M];exact p2
   ·rw [I n e];exact p3
   ·rw [E];exact p4
 ·intro n F
  obtain ⟨p1,p2⟩:=q.word n F;refine ⟨?_,?_⟩
  ·rw [T,M]
   intro h;obtain ⟨a,b,d⟩:=p1 h;exact ⟨a,by omega,(wa _ a b).trans d⟩
  ·by_cases e:n=n0
   ·subst e
    intro _;rw [O,J,wl];exact ⟨by omega,by omega,wn⟩
   ·rw [L n e,I n e]
    intro h;obtain ⟨a,b,d⟩:=p2 h;exact ⟨a,by omega,(wa _ a b).trans d⟩
 ·have B:∀ m,m<40→m≠n0→(g'.lc m).rw≠3→g.rid m≤c.words.length:=fun m H e h=>by rw [L m e] at h;exact ((q.word m H).r h).2.1
  have D:∀ m,m<40→(g'.lc m).sw≠3→g.sid m≤c.words.length:=fun m H h=>by rw [T] at h;exact ((q.word m H).s h).2.1
  refine ⟨?_,?_,?_⟩
  ·intro n m;rw [T,T,M];exact q.ids.ss n m
  ·intro n m F H G h1 h2
   by_cases en:n=n0
   ·subst en
    have V:m≠n:=fun e=>G e.symm
    rw [O,I m V];have:=B m H V h2;omega
   ·by_cases em:m=n0
    ·subst em
     rw [O,I n G];have:=B n F G h1;omega
    ·rw [L n en] at h1
     rw [L m em] at h2;rw [I n en,I m em];exact q.ids.rr n m F H G h1 h2
  ·intro n m F H h1 h2
   rw [M];by_cases en:m=n0
   ·subst en
    rw [O];have:=D n F h1;omega
   ·rw [I m en]
    rw [L m en] at h2;rw [T] at h1;exact q.ids.sr n m F H h1 h2
 ·intro j hj
  rw [List.length_set] at hj;rw [dI h' K];by_cases N:i=j
  ·rw [if_pos N];exact .g n0 k' ⟨Z,U,.inr (.inl ⟨nx,by rw [J],me.trans O.symm⟩)⟩ p'
  ·rw [if_neg N]
   have G:rc (aD hs j)≠some n0:=fun h=>q.ur i j n0 K hj N s0 h
   refine (q.hand j hj).frame ?_ ?_ ?_
   ·intro n F
    rw [Y,E,M];refine ⟨rfl,rfl,fun _=>rfl,fun h=>?_⟩;by_cases e:n=n0
    ·subst e;omega
    ·exact I n e
   ·intro n F
    have e:n≠n0:=fun e=>G (e ▸ F)
    rw [L n e,M,E,I n e];exact ⟨rfl,fun _=>rfl,fun _=>rfl,fun _=>rfl⟩
   ·intro n F
    rw [X,M];exact ⟨rfl,fun _=>rfl⟩
 ·exact iN (cl:=sc) (A:=gJ) (v:=fun n=>(g.lc n).sp) (v':=fun n=>(g'.lc n).sp) (n0:=n0) K q.aS (fun n _=>Y n) (fun h=>.inr (by rw [Y] at h;exact h)) (fun n h=>by rw [jg k] at h;cases h)
 ·exact iN (cl:=rc) (A:=gL) (v:=fun n=>(g.lc n).rp) (v':=fun n=>(g'.lc n).rp) K q.aR_ (fun n e=>by rw [L n e]) (fun _=>.inl s') (fun m h=>.inl (by rw [s0] at h;rw [s'];exact h))
 ·exact iN (cl:=gc) (A:=iM) (v:=fun n=>(g.lc n).gp) (v':=fun n=>(g'.lc n).gp) (n0:=n0) K q.aG_ (fun n _=>X n) (fun h=>.inr (by rw [X] at h;exact h)) (fun n h=>by rw [kK tO] at h;cases h)
 ·rw [wl,q.wc]
  have:=oM (f:=fun m=>wC (g.lc m)) (f':=fun m=>wC (g'.lc m)) Z (fun m _ G=>by show wC (g'.lc m)=wC (g.lc m);rw [L m G]);have e1:wC (g'.lc n0)=wC (g.lc n0)+1:=by
   rw [J];unfold wC;rw [u5];simp <;> omega
  omega
 ·have e1:=pX h' K
  have f2:pc (aD hs i)=0:=by simp [pc,p]
  have f1:pc h'=1:=by simp [pc,p']
  have e2:=oM (f:=fun m=>aC (g.lc m)) (f':=fun m=>aC (g'.lc m)) Z (fun m _ G=>by show aC (g'.lc m)=aC (g.lc m);rw [L m G]);have e3:aC (g'.lc n0)=aC (g.lc n0)+1:=by
   rw [J];unfold aC aR;rcases zz with z|z <;> (rw [z];simp <;> omega)
  have e4:qJ g'=qJ g+1:=by unfold qJ;omega
  rw [kc,k3,e4];rcases q.cnt with h|⟨h1,h2,h3⟩
  ·exact .inl h
  ·exact .inr ⟨h1,by omega,fun hf=>by have:=h3 hf;omega⟩
end
section
theorem xN (c:Ch) (n:Nat):Same c c n:=⟨rfl,rfl,rfl,rfl,rfl,rfl,fun _ _=>rfl⟩
theorem nA {c:Ch} {n:Nat} (x:C3) (F:n<c.cells.length) (m:Nat):aY (setAt c (n:Int) x) m=if n=m then x else aY c m:=by
 unfold aY setAt;simp only [Int.toNat_natCast];rw [List.getD_eq_getElem?_getD,List.getElem?_set,List.getD_eq_getElem?_getD];by_cases e:n=m
 ·subst e;simp [F]
 ·simp [e]
theorem xk {c:Ch} {n:Nat} (x:C3) (G:n<c.cells.length):Same c (setAt c (n:Int) x) n :=
 ⟨rfl,rfl,rfl,rfl,by simp [setAt],rfl,fun m F=>by rw [nA x G,if_neg (fun e=>F e.symm)]⟩
theorem qK (c:Ch) (w v:Int) (n:Nat):Same c (cZ c w v) n:=by
 obtain ⟨a,b,d,e,f⟩:=ym c w v;exact ⟨b,d,e,f,by rw [a],oQ c w v,fun m _=>by unfold aY;rw [a]⟩
theorem gQ {c:Ch} {i:Int} {n:Nat} (h:i=(n:Int)):cellAt c i=aY c n:=by
 subst h;simp [cellAt,aY]
theorem mG {c c':Ch} {g:Gh} {n0:Nat} {y:Lc} (q:xh c g n0) (H:aY c' n0=aY c n0) (I:y.s=(g.lc n0).s) (F:y.wt=(g.lc n0).wt) (G:y.sp≠0→y.sp≠2→(g.lc n0).sp≠0∧(g.lc n0).sp≠2):xh c' (g.put n0 y) n0:=by
 obtain ⟨a,b,d,e⟩:=q;refine ⟨?_,?_,?_,?_⟩ <;> rw [gu,H]
 ·rw [I];exact a
 ·rw [F];exact b
 ·rw [F];exact d
 ·exact fun h1 h2=>e (G h1 h2).1 (G h1 h2).2
theorem Av {c:Ch} {g:Gh} {n0:Nat} {y:Lc} {x:C3} (q:xh c g n0) (I:n0<c.cells.length) (H:x.s=(y.s:Int)) (t1:y.wt=1→x.t=g.sid n0) (t2:y.wt=2→x.t=g.rid n0) (ee:x.e=(aY c n0).e) (F:y.sp≠0→y.sp≠2→(g.lc n0).sp≠0∧(g.lc n0).sp≠2):xh (setAt c (n0:Int) x) (g.put n0 y) n0:=by
 have G:aY (setAt c (n0:Int) x) n0=x:=by rw [nA x I,if_pos rfl]
 refine ⟨?_,?_,?_,?_⟩ <;> rw [gu,G]
 ·exact H
 ·exact t1
 ·exact t2
 ·exact fun h1 h2=>ee.trans (q.e (F h1 h2).1 (F h1 h2).2)
section
variable {c:Ch} {hs:List Ha} {g:Gh} {i n0 n:Nat} {h':Ha}
theorem Q.s0 (q:Q c hs g) (J:i<hs.length) (F:n0<40) (k:(aD hs i).code=1) (p:2≤(aD hs i).pos) (L:(aD hs i).pos≠16) (H:(aD hs i).cell=(n0:Int)) (A:gJ (g.lc n0).sp) (G:(g.lc n0).sp≠2)
  (v:Nat) (N:v≠0) (K:In { g.lc n0 with sp:=v }) (I:HP (g.put n0 { g.lc n0 with sp:=v }) h') (M:(h'.code=1∧2≤h'.pos∧h'.pos≠16∧h'.cell=(n0:Int))∨(h'.pos<2∧¬ gJ v)):Q c (hs.set i h') (g.put n0 { g.lc n0 with sp:=v }) :=
 q.moveS J F K k p L H A N rfl rfl (xN c n0) (mG (q.cell n0 F) rfl rfl rfl fun _ _=>⟨A.1,G⟩) (mh q.word rfl F rfl rfl) Iff.rfl Iff.rfl I M
theorem Q.r0 (q:Q c hs g) (I:i<hs.length) (F:n0<40) (k:(aD hs i).code=2) (p:10≤(aD hs i).pos) (K:(aD hs i).pos<16∨22<(aD hs i).pos) (G:(aD hs i).cell=(n0:Int)) (A:gL (g.lc n0).rp)
  (v:Nat) (M:v≠0) (J:In { g.lc n0 with rp:=v }) (H:HP (g.put n0 { g.lc n0 with rp:=v }) h') (L:(h'.code=2∧10≤h'.pos∧(h'.pos<16∨22<h'.pos)∧h'.cell=(n0:Int)∧aR v=aR (g.lc n0).rp)∨(h'.code=2∧h'.pos=16∧h'.cell=(n0:Int)∧aR v=aR (g.lc n0).rp+1)∨((h'.pos<2∨(h'.pos=9∧h'.code=2))∧¬ gL v∧aR v=aR (g.lc n0).rp)):Q c (hs.set i h') (g.put n0 { g.lc n0 with rp:=v }) :=
 q.moveR I F J k p K G A M rfl rfl (xN c n0) (mG (q.cell n0 F) rfl rfl rfl fun a b=>⟨a,b⟩) (mh q.word rfl F rfl rfl) Iff.rfl Iff.rfl H L
theorem Q.g0 (q:Q c hs g) (I:i<hs.length) (F:n0<40) (k:(aD hs i).code=2) (p:17≤(aD hs i).pos) (K:(aD hs i).pos≤22) (gr:(aD hs i).grow=(n0:Int)) (b:Gp g (aD hs i) n) (A:iM (g.lc n0).gp)
  (v:Nat) (M:v≠0) (J:In { g.lc n0 with gp:=v }) (H:HP (g.put n0 { g.lc n0 with gp:=v }) h') (L:(h'.code=2∧17≤h'.pos∧h'.pos≤22∧h'.cell=(n:Int)∧h'.grow=(n0:Int)∧aG v=0)∨(h'.code=2∧h'.pos=16∧h'.cell=(n:Int)∧aG v=1∧¬ iM v)∨((∃ G:Ha,G.code=2∧Gp g G n∧h'=bF G)∧aG v=0∧¬ iM v)):Q c (hs.set i h') (g.put n0 { g.lc n0 with gp:=v }) :=
 q.moveG I F J k p K gr b A M rfl rfl (xN c n0) (mG (q.cell n0 F) rfl rfl rfl fun a b=>⟨a,b⟩) (mh q.word rfl F rfl rfl) Iff.rfl Iff.rfl H L
theorem Q.s1 (q:Q c hs g) (K:i<hs.length) (F:n0<40) (k:(aD hs i).code=1) (p:2≤(aD hs i).pos) (N:(aD hs i).pos≠16) (H:(aD hs i).cell=(n0:Int)) (A:gJ (g.lc n0).sp) (G:(g.lc n0).sp≠2)
  (a b v:Nat) (x:C3) (R:v≠0) (L:x.s=(a:Int)) (I:x.e=(aY c n0).e) (T:b=1→x.t=g.sid n0) (U:b=2→x.t=g.rid n0) (M:In { g.lc n0 with s:=a,wt:=b,sp:=v }) (J:HP (g.put n0 { g.lc n0 with s:=a,wt:=b,sp:=v }) h') (O:(h'.code=1∧2≤h'.pos∧h'.pos≠16∧h'.cell=(n0:Int))∨(h'.pos<2∧¬ gJ v)):Q (setAt c (n0:Int) x) (hs.set i h') (g.put n0 { g.lc n0 with s:=a,wt:=b,sp:=v }) :=
 q.moveS K F M k p N H A R rfl rfl (xk x CG) (Av (q.cell n0 F) CG L T U I fun _ _=>⟨A.1,G⟩) (mh q.word rfl F rfl rfl) Iff.rfl Iff.rfl J O
theorem Q.r1 (q:Q c hs g) (J:i<hs.length) (F:n0<40) (k:(aD hs i).code=2) (p:10≤(aD hs i).pos) (M:(aD hs i).pos<16∨22<(aD hs i).pos) (G:(aD hs i).cell=(n0:Int)) (A:gL (g.lc n0).rp)
  (a b v:Nat) (x:C3) (O:v≠0) (K:x.s=(a:Int)) (H:x.e=(aY c n0).e) (R:b=1→x.t=g.sid n0) (T:b=2→x.t=g.rid n0) (L:In { g.lc n0 with s:=a,wt:=b,rp:=v }) (I:HP (g.put n0 { g.lc n0 with s:=a,wt:=b,rp:=v }) h') (N:(h'.code=2∧10≤h'.pos∧(h'.pos<16∨22<h'.pos)∧h'.cell=(n0:Int)∧aR v=aR (g.lc n0).rp)∨(h'.code=2∧h'.pos=16∧h'.cell=(n0:Int)∧aR v=aR (g.lc n0).rp+1)∨((h'.pos<2∨(h'.pos=9∧h'.code=2))∧¬ gL v∧aR v=aR (g.lc n0).rp)):Q (setAt c (n0:Int) x) (hs.set i h') (g.put n0 { g.lc n0 with s:=a,wt:=b,rp:=v }) :=
 q.moveR J F L k p M G A O rfl rfl (xk x CG) (Av (q.cell n0 F) CG K R T H fun a b=>⟨a,b⟩) (mh q.word rfl F rfl rfl) Iff.rfl Iff.rfl I N
theorem Q.g1 (q:Q c hs g) (K:i<hs.length) (F:n0<40) (k:(aD hs i).code=2) (p:17≤(aD hs i).pos) (N:(aD hs i).pos≤22) (gr:(aD hs i).grow=(n0:Int)) (H:Gp g (aD hs i) n) (A:iM (g.lc n0).gp)
  (a b v:Nat) (x:C3) (R:v≠0) (L:x.s=(a:Int)) (I:x.e=(aY c n0).e) (T:b=1→x.t=g.sid n0) (U:b=2→x.t=g.rid n0) (M:In { g.lc n0 with s:=a,wt:=b,gp:=v }) (J:HP (g.put n0 { g.lc n0 with s:=a,wt:=b,gp:=v }) h') (O:(h'.code=2∧17≤h'.pos∧h'.pos≤22∧h'.cell=(n:Int)∧h'.grow=(n0:Int)∧aG v=0)∨(h'.code=2∧h'.pos=16∧h'.cell=(n:Int)∧aG v=1∧¬ iM v)∨((∃ G:Ha,G.code=2∧Gp g G n∧h'=bF G)∧aG v=0∧¬ iM v)):Q (setAt c (n0:Int) x) (hs.set i h') (g.put n0 { g.lc n0 with s:=a,wt:=b,gp:=v }) :=
 q.moveG K F M k p N gr H A R rfl rfl (xk x CG) (Av (q.cell n0 F) CG L T U I fun a b=>⟨a,b⟩) (mh q.word rfl F rfl rfl) Iff.rfl Iff.rfl J O
theorem Q.s2 (q:Q c hs g) (J:i<hs.length) (F:n0<40) (k:(aD hs i).code=1) (p:2≤(aD hs i).pos) (L:(aD hs i).pos≠16) (H:(aD hs i).cell=(n0:Int)) (A:gJ (g.lc n0).sp) (G:(g.lc n0).sp≠2)
  (v:Nat) (N:v≠0) (hr:(g.lc n0).rw≠3) (ht:eG c (g.rid n0) 1=true) (K:In { g.lc n0 with sp:=v,rw:=1 }) (I:HP (g.put n0 { g.lc n0 with sp:=v,rw:=1 }) h') (M:(h'.code=1∧2≤h'.pos∧h'.pos≠16∧h'.cell=(n0:Int))∨(h'.pos<2∧¬ gJ v)):Q (cZ c (g.rid n0) 1) (hs.set i h') (g.put n0 { g.lc n0 with sp:=v,rw:=1 }) :=
 q.moveS J F K k p L H A N rfl rfl (qK c _ _ n0) (mG (q.cell n0 F) Fp rfl rfl fun _ _=>⟨A.1,G⟩) (yL (v:=1) q.word q.ids F hr ht tO rfl rfl) Iff.rfl ⟨fun h=>absurd h (by show (1:Nat)≠3;omega),fun h=>absurd h hr⟩ I M
theorem Q.r2 (q:Q c hs g) (I:i<hs.length) (F:n0<40) (k:(aD hs i).code=2) (p:10≤(aD hs i).pos) (K:(aD hs i).pos<16∨22<(aD hs i).pos) (G:(aD hs i).cell=(n0:Int)) (A:gL (g.lc n0).rp)
  (v:Nat) (M:v≠0) (hr:(g.lc n0).sw≠3) (ht:eG c (g.sid n0) 1=true) (J:In { g.lc n0 with rp:=v,sw:=1 }) (H:HP (g.put n0 { g.lc n0 with rp:=v,sw:=1 }) h') (L:(h'.code=2∧10≤h'.pos∧(h'.pos<16∨22<h'.pos)∧h'.cell=(n0:Int)∧aR v=aR (g.lc n0).rp)∨(h'.code=2∧h'.pos=16∧h'.cell=(n0:Int)∧aR v=aR (g.lc n0).rp+1)∨((h'.pos<2∨(h'.pos=9∧h'.code=2))∧¬ gL v∧aR v=aR (g.lc n0).rp)):Q (cZ c (g.sid n0) 1) (hs.set i h') (g.put n0 { g.lc n0 with rp:=v,sw:=1 }) :=
 q.moveR I F J k p K G A M rfl rfl (qK c _ _ n0) (mG (q.cell n0 F) Fp rfl rfl fun a b=>⟨a,b⟩) (uw (v:=1) q.word q.ids F hr ht tO rfl rfl) ⟨fun h=>absurd h (by show (1:Nat)≠3;omega),fun h=>absurd h hr⟩ Iff.rfl H L
theorem Q.g2 (q:Q c hs g) (J:i<hs.length) (F:n0<40) (k:(aD hs i).code=2) (p:17≤(aD hs i).pos) (L:(aD hs i).pos≤22) (gr:(aD hs i).grow=(n0:Int)) (H:Gp g (aD hs i) n) (A:iM (g.lc n0).gp)
  (v:Nat) (N:v≠0) (hr:(g.lc n0).sw≠3) (ht:eG c (g.sid n0) 1=true) (K:In { g.lc n0 with gp:=v,sw:=1 }) (I:HP (g.put n0 { g.lc n0 with gp:=v,sw:=1 }) h') (M:(h'.code=2∧17≤h'.pos∧h'.pos≤22∧h'.cell=(n:Int)∧h'.grow=(n0:Int)∧aG v=0)∨(h'.code=2∧h'.pos=16∧h'.cell=(n:Int)∧aG v=1∧¬ iM v)∨((∃ G:Ha,G.code=2∧Gp g G n∧h'=bF G)∧aG v=0∧¬ iM v)):Q (cZ c (g.sid n0) 1) (hs.set i h') (g.put n0 { g.lc n0 with gp:=v,sw:=1 }) :=
 q.moveG J F K k p L gr H A N rfl rfl (qK c _ _ n0) (mG (q.cell n0 F) Fp rfl rfl fun a b=>⟨a,b⟩) (uw (v:=1) q.word q.ids F hr ht tO rfl rfl) ⟨fun h=>absurd h (by show (1:Nat)≠3;omega),fun h=>absurd h hr⟩ Iff.rfl I M
end
end
section
def lW (kd who k e:Int):Bool:=dV who 0 5 && (if kd == 1 then eD k e else if kd == 2 || (kd == 3 || kd == 4) then r9 k e else if kd == 5 then r9 k e && who == 0 else false)
def CL (b:Bool):Int:=if b then 1 else 0
def oJ (x:Wo) (kd who k e:Int):Wo × Int :=
 if kd == 1 then asked x who k e else if kd == 3 then alone x who 20000 else if kd == 5 then setW x 20000
 else if kd == 4 then ((stopped x who).1,CL (stopped x who).2) else ((bP x who).1,CL (bP x who).2)
end
end Go.Proofs.YtffhjmepfojhnaaGreat
