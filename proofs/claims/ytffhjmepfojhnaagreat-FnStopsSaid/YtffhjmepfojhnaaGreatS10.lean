/-
  The reference model's functions of chapter 6, on hands and channels that are kept whole; lists hold at most 2 ^ 40 elements.
-/
import Derived.Test.YtffhjmepfojhnaaGreatS06
import Derived.Test.YtffhjmepfojhnaaGreatS07
import Derived.Deep.AppendLies
import Derived.Test.YtffhjmepfojhnaaGreatS01
set_option maxRecDepth 100000
set_option maxHeartbeats 2000000
set_option linter.unusedSimpArgs false
set_option linter.unusedVariables false
namespace Go.Proofs.YtffhjmepfojhnaaGreat
open _root_.Go.Proofs.Tryz
section
open Go.RowKit
attribute [local simp] aP
attribute [local go_sem ↓] aQ bF aY bY aZ bZ aX bB aN aU
theorem kQ (c:Ch) (i:Nat) (u:Int) (m q:Value) (lo:Nat) (w:World) (h1:aD w lo m c.cells) (y:aG w lo q c.words) (z:i<c.cells.length) :
  Calls prog 203 #[.agg (aF c m q),.int .i64 i,.int .i64 u] w fun r w'=>r=.returned (.agg (aF c m q))∧aD w' lo m (cB c i u).cells∧aG w' lo q c.words∧w.grownBy w' m.ownBlock:=C8 c i u m q lo w h1 y z
theorem ko (c:Ch) (i:Nat) (f t v:Int) (m q:Value) (lo:Nat) (w:World) (h1:aD w lo m c.cells) (u:aG w lo q c.words) (y:i<c.cells.length) :
  Calls prog 214 #[.agg (aF c m q),.int .i64 i,.int .i64 f,.int .i64 t,.int .i64 v] w fun r w'=>r=.returned (.tuple #[.agg (aF c m q),.bool (bQ c i f t v)])∧aD w' lo m (bK c i f t v).cells∧aG w' lo q c.words∧w.grownBy w' m.ownBlock:=ER c i f t v m q lo w h1 u y
theorem jN {c:Ch} {h:Ha} {x:C3} (q:cellAt c h.cell=x) (n:Int) (m:x.s=n) :
  kv c h=if n == 0 then ({ cZ h x with pos:=4 },true) else if n == 1 then ({ cZ h x with pos:=6 },true) else if n == 4 then ({ cZ h x with pos:=7 },true)
   else if n == 8 then (anew (cZ h x),true) else if n == 10 then (anew (cZ h x),true) else (cZ h x,false):=by
 subst m;subst q;rfl
theorem wm (c:Ch) (h:Ha) (a b:Option Addr) (p q:Nat) (w:World) (h1:fA w w a c.cells) (R:0≤h.cell) (T:h.cell<c.cells.length) :
  Calls prog 200 #[.agg (aF c (.slice a c.cells p) (.slice b c.words q)),.agg (aB h)] w fun r w'=>r=.returned (.tuple #[.agg (aB (kv c h).1),.bool (kv c h).2])∧Below w w w':=by
 obtain ⟨i,y⟩:∃ i:Nat,h.cell=(i:Int):=⟨h.cell.toNat,by omega⟩
 have U:i<c.cells.length:=by omega
 obtain ⟨z,bo,rfl,hb,u⟩:∃ F o,a=some ⟨F,o,none⟩∧F<w.heap.size∧Hid (∀ j,j<3→w.cell? ⟨F,o+i*3+j,none⟩=some ((c.cells.getD i ⟨0,0,0⟩).val j)):=by
  rcases h1 with h0|⟨F,o',e,h1,M⟩
  ·omega
  ·exact ⟨F,o',e,h1,fun j Y=>by simpa [iq] using M i j U Y⟩
 clear h1
 have c0:=u.out 0 tO
 have c2:=u.out 2 tO
 have E:Hid (cellAt c h.cell=c.cells.getD i ⟨0,0,0⟩):=by simp [cellAt,Hid,y]
 clear u
 generalize c.cells.getD i ⟨0,0,0⟩=x at *
 obtain ⟨s,e,t⟩:=x
 simp only [C3.val,Nat.add_zero] at c0 c2
 have V:(0:Int)≤(i:Int):=by omega
 have X:(i:Int)<(c.cells.length:Int):=by omega
 have N:z<w.heap.size+1:=by omega
 have O:z<w.heap.size+1+1:=by omega
 have Z:z≠w.heap.size:=by omega
 have J:z≠w.heap.size+1:=by omega
 have K:z≠w.heap.size+1+1:=by omega
 by_cases I:s=0∨s=1∨s=4∨s=8∨s=10
 ·rcases I with rfl|rfl|rfl|rfl|rfl
  ·rw [show kv c h=({ cZ h ⟨0,e,t⟩ with pos:=4 },true) from jN E.out 0 rfl]
   go_enter func200,ntmps200
   go_wp2
   refine bodyPost_ret (j5 results200 rfl (aJ { cZ h ⟨0,e,t⟩ with pos:=4 } (by simp [go_sem, *] <;> first|rfl|simp [cZ,anew,y]))) rfl ⟨rfl,by exact zB⟩
  ·rw [show kv c h=({ cZ h ⟨1,e,t⟩ with pos:=6 },true) from jN E.out 1 rfl]
   go_enter func200,ntmps200
   go_wp2
   refine bodyPost_ret (j5 results200 rfl (aJ { cZ h ⟨1,e,t⟩ with pos:=6 } (by simp [go_sem, *] <;> first|rfl|simp [cZ,anew,y]))) rfl ⟨rfl,by exact zB⟩
  ·rw [show kv c h=({ cZ h ⟨4,e,t⟩ with pos:=7 },true) from jN E.out 4 rfl]
   go_enter func200,ntmps200
   go_wp2
   refine bodyPost_ret (j5 results200 rfl (aJ { cZ h ⟨4,e,t⟩ with pos:=7 } (by simp [go_sem, *] <;> first|rfl|simp [cZ,anew,y]))) rfl ⟨rfl,by exact zB⟩
  ·rw [show kv c h=(anew (cZ h ⟨8,e,t⟩),true) from jN E.out 8 rfl]
   go_enter func200,ntmps200
   go_wp2_with fail;refine aK w zB fun z=>?_;refine (lJ _ _).mono ?_;rintro _ w1 ⟨rfl,m⟩;obtain ⟨G,A,D⟩:=uW z m (b:=w);(try simp at A);(try simp [go_sem] at D);replace L:=ql D;clear D m z
   go_wp2
   refine bodyPost_ret (j5 results200 rfl (aJ (anew (cZ h ⟨8,e,t⟩)) (by simp [go_sem, *] <;> first|rfl|simp [cZ,anew,y]))) rfl ⟨rfl,by exact zB⟩
  ·rw [show kv c h=(anew (cZ h ⟨10,e,t⟩),true) from jN E.out 10 rfl]
   go_enter func200,ntmps200
   go_wp2_with fail;refine aK w zB fun z=>?_;refine (lJ _ _).mono ?_;rintro _ w1 ⟨rfl,m⟩;obtain ⟨G,A,D⟩:=uW z m (b:=w);(try simp at A);(try simp [go_sem] at D);replace L:=ql D;clear D m z
   go_wp2
   refine bodyPost_ret (j5 results200 rfl (aJ (anew (cZ h ⟨10,e,t⟩)) (by simp [go_sem, *] <;> first|rfl|simp [cZ,anew,y]))) rfl ⟨rfl,by exact zB⟩
 ·have n0:(s == 0)=false:=by simp;omega
  have n1:(s == 1)=false:=by simp;omega
  have n4:(s == 4)=false:=by simp;omega
  have n8:(s == 8)=false:=by simp;omega
  have H:(s == 10)=false:=by simp;omega
  rw [show kv c h=(cZ h ⟨s,e,t⟩,false) from by rw [jN E.out s rfl,n0,n1,n4,n8,H];rfl]
  clear I
  go_enter func200,ntmps200
  go_wp2
  refine bodyPost_ret (j5 results200 rfl (aJ (cZ h ⟨s,e,t⟩) (by simp [go_sem, *] <;> first|rfl|simp [cZ,anew,y]))) rfl ⟨rfl,by exact zB⟩
end
section
open Go.RowKit
attribute [local simp] aP
attribute [local go_sem ↓] aQ bF aY bY aZ bZ aX bB aN aU
def Hu (w w':World) (lo:Nat) (v1 v2:Value) (c:Ch) (x:Ch × Ha) (r:Ending):Prop :=
 ∃ v3,r=.returned (.tuple #[.agg (aF c v1 v3),.agg (aB x.2)])∧aD w' lo v1 x.1.cells∧aG w' lo v3 x.1.words∧fC w v2 v3∧jI v1.ownBlock v2.ownBlock w w'
theorem CO (c:Ch) (h:Ha) (E F y:Int) (G H:Value) (lo:Nat) (w:World) (h1:aD w lo G c.cells) (z:aG w lo H c.words) (R:80≤c.words.length) :
  Calls prog 213 #[.agg (aF c G H),.agg (aB h),.int .i64 E,.int .i64 F,.int .i64 y] w fun r w'=>Hu w w' lo G H c (fP c h E F y) r:=by
 have e:fP c h E F y=(c,aV 4 0):=by simp [fP,R]
 rw [e]
 obtain ⟨N,X,rfl,_⟩:=h1.seg
 obtain ⟨O,Y,rfl,_⟩:=z.seg
 have L:=aA h1
 have M:=aA z
 have T:(80:Int)≤(c.words.length:Int):=by omega
 clear h1 z e
 go_enter func213,ntmps213
 go_wp2_with fail
 go_region_with (go_at_call 130;refine aK w zB fun J=>?_;refine (gZ _ _ _).mono ?_;rintro _ w1 ⟨rfl,q⟩;obtain ⟨m,u,I⟩:=fH J q (b:=w);(try simp at u);(try simp [go_sem] at I);replace Z:=dW I;clear I;have K:=m;clear q J)
 all_goals (go_wp2_with fail)
 all_goals (have A:=L.out;have D:=M.out;have U:=own_below A m;have V:=own_below D m)
 all_goals (refine bodyPost_ret (rq results213 rfl (aO c (.slice N c.cells X) (.slice O c.words Y) tY) rfl (aJ (aV 4 0) tY)) rfl ⟨_,rfl,?_,?_,aM _ _,dR zB⟩)
 all_goals first|(repeat first|with_reducible exact U|with_reducible refine rQ ?_ _|with_reducible refine qh ?_|((with_reducible first|refine aI ?_ ?_ _|refine dZ ?_ ?_);rotate_left;focus first|(refine own_ne A ?_;(try dsimp only);omega)|(refine dN A ?_;(try dsimp only);omega)))|skip
 all_goals first|(repeat first|with_reducible exact V|with_reducible refine rQ ?_ _|with_reducible refine qh ?_|((with_reducible first|refine aI ?_ ?_ _|refine dZ ?_ ?_);rotate_left;focus first|(refine own_ne D ?_;(try dsimp only);omega)|(refine dN D ?_;(try dsimp only);omega)))|skip
theorem Je (c:Ch) (h:Ha) (q L y:Int) (E F:Value) (lo:Nat) (w:World) (h1:aD w lo E c.cells) (G:aG w lo F c.words) (Z:c.words.length<80) (X:0≤h.cell) (Y:h.cell<c.cells.length) (I:bQ c h.cell h.seen q (c.words.length+1)=false) :
  Calls prog 213 #[.agg (aF c E F),.agg (aB h),.int .i64 q,.int .i64 L,.int .i64 y] w fun r w'=>Hu w w' lo E F c (fP c h q L y) r:=by
 have O:¬ 80≤c.words.length:=by omega
 have e:fP c h q L y=(bK c h.cell h.seen q (c.words.length+1),{ h with pos:=y }):=by simp [fP,O,I]
 rw [e]
 obtain ⟨i,H⟩:∃ i:Nat,h.cell=(i:Int):=⟨h.cell.toNat,by omega⟩
 have hi:i<c.cells.length:=by omega
 have R:=aA h1
 have U:=aA G
 have T:=aA (ko c i h.seen q ((c.words.length:Int)+1) E F lo)
 rw [H] at I ⊢
 have D:=kY h1
 obtain ⟨u,A,rfl,_⟩:=h1.seg
 obtain ⟨V,q2,rfl,_⟩:=G.seg
 have a0:¬ (80:Int)≤(c.words.length:Int):=by omega
 have nw:some w.heap.size≠(Value.slice u c.cells A).ownBlock:=fun e=>by have:=D _ e.symm;omega
 have a3:some (w.heap.size+1)≠(Value.slice u c.cells A).ownBlock:=fun e=>by have:=D _ e.symm;omega
 have a4:some (w.heap.size+1+1)≠(Value.slice u c.cells A).ownBlock:=fun e=>by have:=D _ e.symm;omega
 have a5:some (w.heap.size+1+1+1)≠(Value.slice u c.cells A).ownBlock:=fun e=>by have:=D _ e.symm;omega
 clear h1 G e Z O
 go_enter func213,ntmps213
 have J:=R.out
 have K:=U.out
 go_wp2_with fail;refine (T.out _ (zO J J) (zO K K) hi).mono ?_;rintro _ w1 ⟨rfl,p1,p2,m⟩;have z:=m.size;(try (simp at z));have M:=PM m (b:=w);(try simp [go_sem] at M);replace bX:=dW M;clear M;have N:=I6 (w:=w) zB m;clear m
 rw [I]
 go_wp2
 go_region
 go_wp2
 refine bodyPost_ret (rq results213 rfl (aO c (.slice u c.cells A) (.slice V c.words q2) tY) rfl (aJ { h with pos:=y,cell:=(i:Int) } tZ)) rfl ⟨_,rfl,?_,?_,aM _ _,mY (by (repeat (first|with_reducible assumption|with_reducible refine QM ?_|with_reducible refine QN ?_|((with_reducible refine QQ ?_ ?_);rotate_left;(focus ((try dsimp only);(try simp);(try omega))))|((with_reducible refine QP ?_ ?_);rotate_left;(focus ((try dsimp only);(try simp);(try omega)))))))⟩
 ·exact zO p1 J
 ·show aG _ lo _ c.words
  exact zO p2 K
theorem O7 (w:World) (x:Value) (t:TypeId):∀ j u,[x][j]?=some u→(w.alloc (.cells #[x] t)).cell? ((⟨w,0,none⟩:Addr).add j)=some u:=by
 intro j u h
 have m:j<1:=(List.getElem?_eq_some_iff.1 h).1
 have:j=0:=by omega
 subst this
 simp [Addr.add] at h ⊢;exact h
theorem EZ (c:Ch) (h:Ha) (st th el:Int) (v1 v2:Value) (lo:Nat) (w:World) (h1:aD w lo v1 c.cells) (h2:aG w lo v2 c.words) (hf:c.words.length<80) (ah:0≤h.cell) (ai:h.cell<c.cells.length) (ht:bQ c h.cell h.seen st (c.words.length+1)=true) (ak:lo≤w.heap.size) :
  Calls prog 213 #[.agg (aF c v1 v2),.agg (aB h),.int .i64 st,.int .i64 th,.int .i64 el] w fun r w'=>Hu w w' lo v1 v2 c (fP c h st th el) r:=by
 have hn:¬ 80≤c.words.length:=by omega
 have e:fP c h st th el=({ bK c h.cell h.seen st (c.words.length+1) with words:=c.words ++ [0] },{ h with mine:=c.words.length+1,pos:=th }):=by simp [fP,hn,ht]
 rw [e]
 obtain ⟨i,a9⟩:∃ i:Nat,h.cell=(i:Int):=⟨h.cell.toNat,by omega⟩
 have hi:i<c.cells.length:=by omega
 have O1:=aA h1
 have O2:=aA h2
 have T:=aA (ko c i h.seen st ((c.words.length:Int)+1) v1 v2 lo)
 rw [a9] at ht ⊢
 have b2:=kY h2
 have b1:=kY h1
 obtain ⟨X,Y,rfl,_⟩:=h1.seg
 obtain ⟨a2,q2,rfl,_⟩:=h2.seg
 have aj:¬ (80:Int)≤(c.words.length:Int):=by omega
 have nw:some w.heap.size≠(Value.slice X c.cells Y).ownBlock:=fun e=>by have:=b1 _ e.symm;omega
 have aq:some (w.heap.size+1)≠(Value.slice X c.cells Y).ownBlock:=fun e=>by have:=b1 _ e.symm;omega
 have ar:some (w.heap.size+1+1)≠(Value.slice X c.cells Y).ownBlock:=fun e=>by have:=b1 _ e.symm;omega
 have au:some (w.heap.size+1+1+1)≠(Value.slice X c.cells Y).ownBlock:=fun e=>by have:=b1 _ e.symm;omega
 have mw:∀ j,w.heap.size≤j→some j≠(Value.slice a2 c.words q2).ownBlock:=fun j hj e=>by have:=b2 _ e.symm;omega
 have al:=mw w tO
 have am:=mw (w+1) tO
 have an:=mw (w+1+1) tO
 have ao:=mw (w+1+1+1) tO
 clear h1 h2 e hf hn
 go_enter func213,ntmps213
 have o1:=O1.out
 have o2:=O2.out
 go_wp2_with fail;refine (T.out _ (zO o1 o1) (zO o2 o2) hi).mono ?_;rintro _ O ⟨rfl,p1,p2,y⟩;have a6:=y.size;(try (simp at a6));have zz:=And.intro (bE y (b:=w+1+1+1) tS (by assumption)) <| And.intro (bE y (b:=w+1+1) tS (by assumption)) <| And.intro (bE y (b:=w+1) tS (by assumption)) <| bE y (b:=w) tS (by assumption);(try simp [go_sem] at zz);(try clear m E A u);(try clear q H G D);(try clear z N K I);(try clear J a3 a0 V);obtain ⟨m,q,z,J⟩:=zz;obtain ⟨E,A,u⟩:=bO m;obtain ⟨H,G,D⟩:=bO q;obtain ⟨N,K,I⟩:=bO z;obtain ⟨a3,a0,V⟩:=bO J;have a5:=I6 (w:=w) zB y;clear y
 rw [ht]
 obtain ⟨i0,ac,ad,ae,af⟩:=info_parts kL
 go_wp2_with (at_builtin;refine wpList_append_lies _ rfl _ _ 29 rfl lo 2 i0 _ 1 8 underlying29 ac ad ae af rfl (by decide) (.slice a2 c.words q2) c.words (ints c.words) rfl (World.ownsRow.alloc (World.ownsRow.alloc p2 _) _) ⟨O+1,0,none⟩ 1 1 [.int .i64 0] rfl rfl ?c2 (by simp [Value.oneCell']) tO ?c3 ?c4 ?c5 (O+1+1) (by simp) ?_)
 case c2=>have:=O7 (O.alloc (.cells (aF c (.slice X c.cells Y) (.slice a2 c.words q2)) 31)) (.int .i64 0) 2;simpa using this
 case c3=>unfold maxLen;omega
 case c4=>omega
 case c5=>simp;omega
 intro L q4 w4 o4 R F ag
 have ap:=mw O tO
 have M:O<O.heap.size+1:=by omega
 have a7:=R.size;(try (simp at a7));have zz:=And.intro (bE R (b:=O) tS (by assumption)) <| And.intro (bE R (b:=w+1+1+1) tS (by assumption)) <| And.intro (bE R (b:=w+1+1) tS (by assumption)) <| And.intro (bE R (b:=w+1) tS (by assumption)) <| bE R (b:=w) tS (by assumption);(first|simp [go_sem,m,q,z,J,V,M,I,D,u] at zz|simp [go_sem] at zz|skip);(try clear Z a8 a4 M);(try clear m E A u);(try clear q H G D);(try clear z N K I);(try clear J a3 a0 V);obtain ⟨Z,m,q,z,J⟩:=zz;obtain ⟨a8,a4,M⟩:=bO Z;obtain ⟨E,A,u⟩:=bO m;obtain ⟨H,G,D⟩:=bO q;obtain ⟨N,K,I⟩:=bO z;obtain ⟨a3,a0,V⟩:=bO J
 have r1:aD w4 lo (.slice X c.cells Y) (bK c (i:Int) h.seen st (c.words.length+1)).cells:=((World.ownsRow.alloc (World.ownsRow.alloc p1 _) _)).kept R (zV p1 p2)
 have r2:aG w4 lo (.slice (some ⟨L,0,none⟩) (c.words.length+1) q4) (c.words ++ [0]):=aG.snoc o4
 have U:fC w (.slice a2 c.words q2) (.slice (some ⟨L,0,none⟩) (c.words.length+1) q4):=fun j hj=>by
  simp [Value.ownBlock] at hj
  subst hj
  rcases F with F|F
  ·exact .inl F
  ·exact .inr tO
 have aa:∀ j,w.heap.size≤j→j<O.heap.size+1→L≠j:=fun j h1 h2 e=>by
  rcases F with F|F
  ·have:=b2 _ F;omega
  ·omega
 clear o4
 have ab:∀ j,w.heap.size≤j→j<O.heap.size+1→(Value.slice (some ⟨L,0,none⟩) (c.words.length+1) q4).ownBlock≠some j:=fun j h1 h2 e=>aa j h1 h2 (by simpa [Value.ownBlock] using e)
 have hO:jI (Value.slice X c.cells Y).ownBlock (Value.slice a2 c.words q2).ownBlock w w4:=gU (mY a5) (gU (dR zB) (QF R))
 clear R
 obtain ⟨k0,k1,k2,k3⟩:=mF (a:=w) (b:=O)
 go_wp2
 go_region
 go_wp2
 refine bodyPost_ret (rq results213 rfl (aO c (.slice X c.cells Y) (.slice (some ⟨L,0,none⟩) (c.words.length+1) q4) tY) rfl (aJ { h with cell:=(i:Int),mine:=c.words.length+1,pos:=th } tZ)) rfl ⟨_,rfl,?_,?_,U,?_⟩
 ·exact zO r1 o1
 ·exact zP r2 r2 ab
 ·exact zN
theorem rC (c:Ch) (h:Ha) (m D y:Int) (q u:Value) (lo:Nat) (w:World) (h1:aD w lo q c.cells) (E:aG w lo u c.words) (z:0≤h.cell) (A:h.cell<c.cells.length) (F:lo≤w.heap.size) :
  Calls prog 213 #[.agg (aF c q u),.agg (aB h),.int .i64 m,.int .i64 D,.int .i64 y] w fun r w'=>Hu w w' lo q u c (fP c h m D y) r:=by
 by_cases H:80≤c.words.length
 ·exact CO c h m D y q u lo w h1 E H
 ·cases G:bQ c h.cell h.seen m (c.words.length+1) with
  | true=>exact EZ c h m D y q u lo w h1 E tO z A G F
  | false=>exact Je c h m D y q u lo w h1 E tO z A G
end
section
open Go.RowKit
attribute [local simp] aP
attribute [local go_sem ↓] aQ bF aY bY aZ bZ aX bB aN aU
def dJ (w w':World) (lo:Nat) (v1 v2:Value) (x:St) (r:Ending):Prop:=vS w w' lo v1 v2 x r∧jI v1.ownBlock v2.ownBlock w w'
abbrev dG (F:FuncId) (c:Ch) (h:Ha) (v1 v2:Value) (lo:Nat) (w:World) (x:St):Prop:=Calls prog F #[.agg (aF c v1 v2),.agg (aB h)] w fun r w'=>dJ w w' lo v1 v2 x r
theorem Fa (c:Ch) (h:Ha) (D E:Value) (lo:Nat) (w:World) (h1:aD w lo D c.cells) (J:aG w lo E c.words) (hs:(h.seen != 0 && h.seen != 1)=true) :
  Calls prog 201 #[.agg (aF c D E),.agg (aB h)] w fun r w'=>dJ w w' lo D E (jQ c h) r:=by
 have e:jQ c h=nothing:=by unfold jQ;rw [if_pos hs]
 rw [e]
 have T:=aA (iX · lo D E)
 generalize nothing=x at *
 have N:=kY h1
 have O:=kY J
 obtain ⟨a1,q1,R,_⟩:=h1.seg
 obtain ⟨a2,q2,U,_⟩:=J.seg
 simp at hs
 have V:(h.seen != 0)=true:=by simpa using hs.1
 have X:(h.seen != 1)=true:=by simpa using hs.2
 subst R U
 clear h1 J e hs
 go_enter func201,ntmps201
 go_wp2_with fail;refine aK w zB fun L=>?_;refine (T.out _).mono ?_;rintro _ w1 ⟨⟨y1,y2,rfl,y,z,F,G⟩,m⟩;obtain ⟨M,A,K⟩:=fH L m (b:=w);(try simp at A);(try simp [go_sem] at K);replace bX:=dW K;clear K m L
 obtain ⟨⟨q,u⟩,H,I⟩:=sO (w:=w) (w+1+1+1+1) F G N O;obtain ⟨Y,yp,rfl,_⟩:=y.seg;obtain ⟨Z,yq,rfl,_⟩:=z.seg
 go_wp2
 refine rE results201 rfl (aO x.1 (.slice Y x.1.cells yp) (.slice Z x.1.words yq) tY) rfl (aJ x.2.1 tY) ⟨⟨_,_,rfl,?_,?_,H,I⟩,dR zB⟩
 ·exact zP y y q
 ·exact zP z z u
theorem fC.trans {w W:World} {v m q:Value} (h:fC w v m) (k:fC W m q) (hs:w≤W.heap.size):fC w v q:=fun j r=>by
 rcases k j r with h1|h1
 ·exact h j h1
 ·exact .inr (Nat.le_trans hs h1)
theorem rD (c:Ch) (h:Ha) (q r m:Int) (a b:Value):aF (fP c h q r m).1 a b=aF c a b:=by
 unfold fP
 split
 ·rfl
 ·split <;> rfl
theorem Fb (c:Ch) (h:Ha) (L U:Value) (lo:Nat) (w:World) (h1:aD w lo L c.cells) (M:aG w lo U c.words) (a7:lo≤w.heap.size) (Z:0≤h.cell) (a0:h.cell<c.cells.length) (hs:h.seen=0) (a4:h.come≤h.cell) (a5:h.fin≤h.cell) :
  Calls prog 201 #[.agg (aF c L U),.agg (aB h)] w fun r w'=>dJ w w' lo L U (jQ c h) r:=by
 have e:jQ c h=done (fP c h 3 23 3).1 (fP c h 3 23 3).2:=by simp [jQ,hs,a4,a5]
 rw [e]
 have T:=aA fun W a b=>rC c h 3 23 3 L U lo W a b Z a0
 have D:=aA fun v3 W=>bU (fP c h 3 23 3).1 (fP c h 3 23 3).2 L v3 lo W
 have I:=aA (rD c h 3 23 3)
 generalize done (fP c h 3 23 3).1 (fP c h 3 23 3).2=x at *
 generalize fP c h 3 23 3=y at *
 have b1:=kY h1
 have b2:=kY M
 have O:=nO b1
 have R:=nO b2
 have a8:=O w tO
 have a9:=O (w+1) tO
 have aa:=O (w+1+1) tO
 have ab:=O (w+1+1+1) tO
 have ac:=R w tO
 have ad:=R (w+1) tO
 have ae:=R (w+1+1) tO
 have af:=R (w+1+1+1) tO
 have o1:=h1
 have o2:=M
 obtain ⟨a1,q1,e1,_⟩:=h1.seg
 obtain ⟨a2,q2,e2,_⟩:=M.seg
 subst e1 e2
 clear h1 M e
 go_enter func201,ntmps201
 go_wp2_with fail
 refine (T.out _ (zO o1 o1) (zO o2 o2) (by simp;omega)).mono ?_
 rintro _ w1 ⟨v3,rfl,p1,p2,f3,N⟩
 have J:=N.2.2.2.1;(try (simp at J));have q:=xD N (b:=w);(try simp [go_sem] at q);replace bX:=dW q;clear q
 rw [← I.out]
 obtain ⟨a3,q3,rfl,_⟩:=p2.seg
 have H:jI (Value.slice a1 c.cells q1).ownBlock (Value.slice a2 c.words q2).ownBlock w w1:=gU (dR zB) N
 clear N
 obtain ⟨k0,k1,k2,k3⟩:=mF (a:=w) (b:=w1)
 go_wp2_with fail;refine aK w1 zB fun bk=>?_;refine (D.out _ _ (zO p1 p1) (zO p2 p2)).mono ?_;rintro _ w2 ⟨⟨y1,y2,rfl,E,F,V,u⟩,m⟩;have K:=m.size;(try simp at K);have q:=BL m (b:=w);(first|simp [go_sem,bX,k0,k1,k2,k3] at q|simp [go_sem] at q|skip);replace bX:=dW q;clear q;have G:=bT bk m;clear m bk
 have a6:=gU H (dR G)
 replace u:=f3.trans u tS
 clear H f3
 obtain ⟨⟨z,A⟩,X,Y⟩:=sO (w:=w) (w+1+1+1+1) V u b1 b2;obtain ⟨ya,yp,rfl,_⟩:=E.seg;obtain ⟨yb,yq,rfl,_⟩:=F.seg
 go_wp2
 refine rE results201 rfl (aO x.1 (.slice ya x.1.cells yp) (.slice yb x.1.words yq) tY) rfl (aJ x.2.1 tY) ⟨⟨_,_,rfl,?_,?_,X,Y⟩,by exact zN⟩
 ·exact zP E E z
 ·exact zP F F A
end
section
open Go.RowKit
theorem Hw (w:World) (x:Value) (t:TypeId):∀ j u,[x][j]?=some u→(w.alloc (.cells #[x] t)).cell? ((⟨w,0,none⟩:Addr).add j)=some u:=by
 intro j u h
 have m:j<1:=(List.getElem?_eq_some_iff.1 h).1
 have:j=0:=by omega
 subst this
 simp [Addr.add] at h ⊢;exact h
theorem pW (m:Int) (c:C3):∀ (l:List C3) (n:Nat),ky m n (l ++ [c])=ky m n l ++ (if c.s == m then [((n+l.length:Nat):Int)] else [])
 | [],n=>by simp [ky]
 | d :: l,n=>by
  have h:=pW m c l (n+1)
  have e:n+1+l.length=n+(d :: l).length:=by simp;omega
  rw [e] at h
  simp only [List.cons_append,ky]
  split <;> simp [h]
theorem oK (m:Int):∀ (l:List C3) (n:Nat),(ky m n l).length≤l.length
 | [],n=>by simp [ky]
 | d :: l,n=>by
  have h:=oK m l (n+1)
  simp only [ky]
  split <;> simp <;> omega
def rZ (cells:List C3) (st:Int) (k:Nat):List Int:=ky st 0 (cells.take k)
theorem PT (cells:List C3) (m:Int):rZ cells m 0=[]:=by simp [rZ,ky]
theorem L8 {cells:List C3} {m:Int} {k:Nat} {c:C3} (r:k<cells.length) (q:cells.getD k ⟨0,0,0⟩=c) (h:(c.s == m)=true):rZ cells m (k+1)=rZ cells m k ++ [(k:Int)]:=by
 unfold rZ
 rw [ow cells k r,q,pW,if_pos h,List.length_take_of_le tO];simp
theorem O8 {cells:List C3} {m:Int} {k:Nat} {c:C3} (r:k<cells.length) (q:cells.getD k ⟨0,0,0⟩=c) (h:(c.s == m)=false):rZ cells m (k+1)=rZ cells m k:=by
 unfold rZ
 rw [ow cells k r,q,pW,h];simp
theorem L9 (c:Ch) (m:Int):rZ c.cells m c.cells=atS c m:=by simp [rZ,atS]
theorem LA (cells:List C3) (m:Int) (k:Nat):(rZ cells m k).length≤k:=by
 have h:=oK m (cells.take k) 0
 have:=List.length_take_le k cells
 unfold rZ;omega
theorem LB (c:Ch) (A:Int) (a b:Option Addr) (p q:Nat) (w:World) (h1:fA w w a c.cells) (hm:c.cells.length≤1099511627776) :
  Calls prog 113 #[.agg #[c.cap,c.sent,c.got,c.fin,.slice a c.cells p,.slice b c.words q],.int .i64 A] w fun r w'=>(∃ v,r=.returned v∧aG w' w v (atS c A))∧Below w w w':=by
 obtain ⟨i0,J,M,N,O⟩:=info_parts kL
 have HE:=aA (L9 c A)
 obtain ⟨cap,sent,got,fin,cells,words⟩:=c
 simp only at *
 have Z:=aA h1
 clear h1
 go_enter func113,ntmps113
 go_wp2
 go_loopw [5,6] (fun v i wr=>∃ k:Nat,k≤cells.length∧i=.int .i64 k∧aG wr (w+1) v (rZ cells A k)∧wr.cell? ⟨w,4,none⟩=some (.slice a cells.length p)∧w<wr.heap.size∧Below w w wr) (fun _ i _=>cells.length - (intOf i).toNat)
 case atStart=>exact ⟨0,Nat.zero_le _,rfl,by rw [PT];exact gJ _ _ _ _ _ (by simp) (by simp),by simp,by (simp;try omega),by exact zB⟩
 case round =>
  obtain ⟨k,hk,rfl,m,T,E,H⟩:=hrel
  by_cases y:k<cells.length
  ·obtain h0|⟨V,X,rfl,hb,Y⟩:=Z.out
   ·omega
   have c0:=(H.cell (p:=⟨V,X+k*3+0,none⟩) hb).trans (Y k 0 y tO)
   simp only [iq,C3.val,Nat.add_zero] at c0
   clear Y
   generalize D:cells.getD k ⟨0,0,0⟩=c at c0
   have U:=aA D
   clear D
   have a2:=LA cells A k
   have a0:(0:Int)≤(k:Int):=by omega
   have a1:(k:Int)<(cells.length:Int):=by omega
   go_wp2_with (at_builtin;refine wpList_append_own _ rfl _ _ 29 rfl (w.heap.size+1) 2 i0 _ 1 8 underlying29 J M N O rfl (by decide) _ _ _ rfl (m.alloc _) ⟨wr,0,none⟩ 1 1 [.int .i64 k] rfl rfl (Hw _ _ _) (by simp [Value.oneCell']) ?c3 ?c4 ?c5 ?_)
   case c3=>unfold maxLen;omega
   case c4=>omega
   case c5=>simp;omega
   ·intro v4 R u G _
    have F:=own_ne m (b:=w) tO
    have L:R.cell? ⟨w,4,none⟩=some (.slice (some ⟨V,X,none⟩) cells.length p) :=
     (World.cell?_of_block (G.block w (by simp;omega) (fun e=>F e.symm))).trans (jm T)
    have K:=G.size
    simp at K
    have I:Below w w R:=iN zB G (by simp;omega) (fun q hq=>by have:=(m.lt q hq).1;omega)
    have ht:(c.s == A)=true:=by assumption
    have z:aG R (w+1) v4 (rZ cells A (k+1)):=by
     rw [L8 y U.out ht];exact aG.snoc u
    clear u G F T m
    go_wp2
    go_roundw
    case rel=>exact ⟨k+1,by omega,by go_num,z,L,by omega,I⟩
    case measure=>simp [intOf];omega
   ·go_roundw
    case rel=>exact ⟨k+1,by omega,by go_num,by rw [O8 y U.out ‹_›];exact m,T,E,H⟩
    case measure=>simp [intOf];omega
  ·have:k=cells.length:=by omega
   subst this
   go_wp2
   go_ret
   exact ⟨⟨_,rfl,aH (HE.out ▸ m) tO⟩,H⟩
theorem wo (m:Int):∀ (l:List C3) (n:Nat) (x:Int),x ∈ ky m n l→∃ k:Nat,x=(k:Int)∧n≤k∧k<n+l.length
 | [],n,x,h=>by simp [ky] at h
 | d :: l,n,x,h=>by
  simp only [ky] at h
  have q:x ∈ ky m (n+1) l→∃ k:Nat,x=(k:Int)∧n≤k∧k<n+(d :: l).length:=fun h=>by
   obtain ⟨k,h1,r,u⟩:=wo m l (n+1) x h
   exact ⟨k,h1,by omega,by simp;omega⟩
  split at h
  ·rcases List.mem_cons.1 h with rfl|h
   ·exact ⟨n,rfl,Nat.le_refl _,by simp⟩
   ·exact q h
  ·exact q h
def elemOf (cells:List C3) (i:Int):Int:=(cells.getD i.toNat ⟨0,0,0⟩).e
def mV (cells:List C3) (l:List Int) (k:Nat):List Int:=(l.take k).map (elemOf cells)
theorem CP {cells:List C3} {l:List Int} {k:Nat} {x:Int} (m:k<l.length) (q:l.getD k 0=x):mV cells l (k+1)=mV cells l k ++ [elemOf cells x]:=by
 unfold mV
 have e:l.take (k+1)=l.take k ++ [x]:=by
  rw [List.take_succ_eq_append_getElem m,← q];simp [List.getD,List.getElem?_eq_getElem m]
 rw [e,List.map_append];rfl
theorem Fe (cells:List C3) (l:List Int) (k:Nat):(mV cells l k).length≤k:=by
 have:=List.length_take_le k l
 simp [mV];omega
theorem Ff {c:Ch} (h:aW c=true):mV c.cells (atS c 2) (atS c 2).length=keptIn c:=by
 unfold mV keptIn
 rw [List.take_length,h];rfl
theorem CQ (c:Ch) (a b:Option Addr) (p q:Nat) (w:World) (h1:fA w w a c.cells) (h2:fD w w b c.words) (hm:c.cells.length≤1099511627776) :
  Calls prog 61 #[.agg #[c.cap,c.sent,c.got,c.fin,.slice a c.cells p,.slice b c.words q]] w fun r w'=>(∃ v,r=.returned v∧aG w' w v (keptIn c))∧Below w w w':=by
 obtain ⟨i0,a7,aa,ab,ac⟩:=info_parts kL
 have H1:=aA h1
 have H2:=aA h2
 clear h1 h2
 by_cases hc:aW c=true
 ·have HV:=aA (Ff hc)
  have HL:Hid (∀ x ∈ atS c 2,∃ k:Nat,x=(k:Int)∧k<c.cells.length):=fun x hx=>by
   obtain ⟨k,h1,_,h3⟩:=wo 2 c.cells 0 x hx
   exact ⟨k,h1,by omega⟩
  have ao:(atS c 2).length≤c.cells.length:=by have:=oK 2 c.cells 0;unfold atS;omega
  go_enter func61,ntmps61
  go_wp2_with fail
  refine (mg c a b p q _ (((H1.out).below zB).more (by simp;try omega)) (((H2.out).below zB).more (by simp;try omega))).mono ?_
  rintro _ U ⟨rfl,A⟩
  have Y:Below w w U:=bT zB A
  have a8:=A.size
  simp at a8
  have:=fun o=>A.cell (p:=⟨w,o,none⟩) (by simp;try omega)
  have y:aG U (w+1) (.slice (some ⟨w+1,0,none⟩) 0 0) []:=own_below (gJ _ _ _ _ _ (by simp) (by simp)) A
  go_wp2_with fail
  refine (LB c 2 a b p q _ (((H1.out).below Y).more tO) hm).mono ?_
  rintro _ w2 ⟨⟨v2,rfl,z⟩,E⟩
  have Z:Below w w w2:=bT zB E
  have ap:=E.size
  have K:w2.cell? ⟨w,4,none⟩=some (.slice a c.cells p):=(E.cell (by simp;omega)).trans (by simp [*,go_sem])
  have F:=own_below y E
  have N:∀ g,(Value.slice (some ⟨w+1,0,none⟩) 0 0).ownBlock=some g→v2.ownBlock≠some g:=fun g hg he=>by
   simp [Value.ownBlock] at hg
   subst hg
   have:=(z.lt _ he).1
   omega
  obtain ⟨la,lc,rfl,_⟩:=aG.seg z
  generalize M:atS c 2=l at *
  have HA:=aA M
  clear M y A E
  go_wp2_with fail
  go_loopw [3,5] (fun v i wr=>∃ k:Nat,k≤l.length∧i=.int .i64 k∧aG wr (w+1) v (mV c.cells l k)∧(∀ g,v.ownBlock=some g→(Value.slice la l.length lc).ownBlock≠some g)∧aG wr U (.slice la l.length lc) l∧wr.cell? ⟨w,4,none⟩=some (.slice a c.cells p)∧w<wr.heap.size∧Below w w wr) (fun _ i _=>l.length - (intOf i).toNat)
  case atStart=>exact ⟨0,Nat.zero_le _,rfl,(show mV c.cells l 0=[] from rfl) ▸ F,N,z,K,by omega,Z⟩
  case round =>
   clear F N z K Z
   obtain ⟨k,hk,rfl,u,a2,J,x4,af,hB⟩:=hrel
   by_cases H:k<l.length
   ·obtain ⟨i,L,hi⟩:=HL.out (l.getD k 0) (by rw [List.getD,List.getElem?_eq_getElem H];exact List.getElem_mem H)
    have a6:∃ g,la=some ⟨g,0,none⟩∧wr.cell? ⟨g,k,none⟩=some (.int .i64 (l.getD k 0)):=by
     rcases J.2 with ⟨X,ai⟩|⟨g,cap,ah,X,_⟩
     ·omega
     ·simp at X
      refine ⟨g,X.1,?_⟩
      have:=J.cells (g:=g) (by rw [X.1];rfl) k (.int .i64 (l.getD k 0)) (by simp [ints,List.getD,List.getElem?_eq_getElem H])
      rw [← this];congr 1;by_cases e:k=0 <;> simp [Addr.add,e]
    obtain ⟨g,rfl,cl⟩:=a6
    obtain X|⟨O,bo,rfl,hb,a0⟩:=H1.out
    ·omega
    have c1:=(hB.cell (p:=⟨O,bo+i*3+1,none⟩) hb).trans (a0 i 1 hi tO)
    simp only [iq,C3.val] at c1
    clear a0
    have he:elemOf c.cells (l.getD k 0)=(c.cells.getD i ⟨0,0,0⟩).e:=by rw [L];simp [elemOf]
    have V:=aA he
    generalize (c.cells.getD i ⟨0,0,0⟩).e=ev at c1 V
    clear he
    have HX:=aA L
    rw [L] at cl
    clear L
    have an:=Fe c.cells l k
    have al:(0:Int)≤(k:Int):=by omega
    have am:(k:Int)<(l.length:Int):=by omega
    have ad:(0:Int)≤(i:Int):=by omega
    have ae:(i:Int)<(c.cells.length:Int):=by omega
    go_wp2_with fail
    have ak:g<wr.heap.size:=World.block_lt_of_cell? _ _ cl
    have aj:O<wr.heap.size:=by omega
    have R:some w.heap.size≠u3.ownBlock:=fun e=>own_ne u (b:=w) tO e.symm
    have I:some g≠u3.ownBlock:=fun e=>a2 g e.symm rfl
    have a1:some O≠u3.ownBlock:=fun e=>own_ne u (b:=O) tO e.symm
    go_region_held3 (fun w'=>w'.cell? ⟨w,4,none⟩=some (.slice (some ⟨O,bo,none⟩) c.cells p)∧w'.cell? ⟨g,k,none⟩=some (.int .i64 i)∧w'.cell? ⟨O,bo+i*3+1,none⟩=some (.int .i64 ev))
     (first
      | (simp [*,go_sem])
      | (refine ⟨World.grownBy.cell m (by simp [*,go_sem]) R,World.grownBy.cell m (by simp [*,go_sem]) I,World.grownBy.cell m (by simp [*,go_sem]) a1⟩))
     (first|(refine step_append_lies _ (by rfl) _ _ _ (by rfl) (w+1) 2 i0 _ 1 8 underlying29 a7 aa ab ac rfl tO u3 _ _ (by rfl) (World.ownsRow.drew (u.alloc _)) ⟨wr,0,none⟩ 1 1 [.int .i64 ev] (by rfl) (by rfl) (World.news_of_block (cs:=#[.int .i64 ev]) (t:=2) (fr:=(0,0)) (heap_alloc_new wr _)) (by simp [Value.oneCell']) tO (by unfold maxLen;omega) tO (by simp;omega) (wr+1) (by simp) ?_;intro gg cap w4 G m D ag))
    have K:w4.cell? ⟨w,4,none⟩=some (.slice (some ⟨O,bo,none⟩) c.cells p):=World.grownBy.cell m (by simp [*,go_sem]) R
    have a9:=m.size
    simp at a9
    have a4:Below w w w4:=iN zB m (by simp;omega) (fun q hq=>by have:=(u.lt q hq).1;omega)
    have a3:aG w4 U (.slice (some ⟨g,0,none⟩) l.length lc) l:=(World.ownsRow.drew (J.alloc _)).kept m (.inr I)
    have T:aG w4 (w+1) (.slice (some ⟨gg,0,none⟩) ((mV c.cells l k).length+1) cap) (mV c.cells l (k+1)):=by
     rw [CP H rfl,V.out];exact aG.snoc G
    have a5:g≠gg:=by
     rcases D with D|D
     ·intro e;exact I (by rw [D,e])
     ·omega
    clear G m R I a1 u J a2 x4 D
    go_wp2
    go_roundw
    case rel=>exact ⟨k+1,by omega,by go_num,T,fun g' e1 e2=>a5 (by simp [Value.ownBlock] at e1 e2;omega),a3,K,by omega,a4⟩
    case measure=>simp [intOf];omega
   ·have:k=l.length:=by omega
    subst this
    go_wp2
    go_ret
    exact ⟨⟨_,rfl,aH (HV.out ▸ u) tO⟩,hB⟩
 ·have HV:Hid (keptIn c=[]):=by simp [keptIn,hc,Hid]
  go_enter func61,ntmps61
  go_wp2_with fail
  refine (mg c a b p q _ (((H1.out).below zB).more (by simp;try omega)) (((H2.out).below zB).more (by simp;try omega))).mono ?_
  rintro _ U ⟨rfl,A⟩
  have Y:Below w w U:=bT zB A
  have y:aG U w (.slice (some ⟨w+1,0,none⟩) 0 0) []:=own_below (gJ _ _ _ _ _ (by simp) (by simp)) A
  go_wp2
  go_ret
  refine ⟨⟨_,rfl,?_⟩,by exact zB⟩
  rw [HV.out]
  exact y
end
end Go.Proofs.YtffhjmepfojhnaaGreat
