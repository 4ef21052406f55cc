/-
  The reference model's functions of chapter 6, on hands and channels that are kept whole; lists hold at most 2 ^ 40 elements.
-/
import Derived.Test.YtffhjmepfojhnaaGreatT06
import Derived.Test.YtffhjmepfojhnaaGreatT07
import Derived.Deep.AppendLies
set_option maxRecDepth 100000
set_option maxHeartbeats 4000000
set_option linter.unusedSimpArgs false
set_option linter.unusedVariables false
namespace Go.Proofs.YtffhjmepfojhnaaGreat
open _root_.Go.Proofs.Tryz
section
open Go.RowKit
attribute [local simp] dz
attribute [local go_sem ↓] dA fU dO gW dP gY dW fE bK eO
theorem mo (c:Ch) (i:Nat) (F:Int) (v1 v2:Value) (lo:Nat) (w:World) (h1:aF w lo v1 c.cells) (h2:aI w lo v2 c.words) (G:i<c.cells.length) :
  Calls prog 203 #[.agg (aH c v1 v2),.int .i64 i,.int .i64 F] w fun r w'=>r=.returned (.agg (aH c v1 v2))∧aF w' lo v1 (bZ c i F).cells∧aI w' lo v2 c.words∧w.grownBy w' v1.ownBlock:=Gc c i F v1 v2 lo w h1 h2 G
theorem lM (c:Ch) (i:Nat) (f t v:Int) (v1 v2:Value) (lo:Nat) (w:World) (h1:aF w lo v1 c.cells) (h2:aI w lo v2 c.words) (F:i<c.cells.length) :
  Calls prog 214 #[.agg (aH c v1 v2),.int .i64 i,.int .i64 f,.int .i64 t,.int .i64 v] w fun r w'=>r=.returned (.tuple #[.agg (aH c v1 v2),.bool (bB c i f t v)])∧aF w' lo v1 (bU c i f t v).cells∧aI w' lo v2 c.words∧w.grownBy w' v1.ownBlock:=Ja c i f t v v1 v2 lo w h1 h2 F
theorem qL {c:Ch} {h:Ha} {x:C3} (G:cellAt c h.cell=x) (n:Int) (F:x.s=n) :
  kZ c h=if n == 0 then ({ dC h x with pos:=4 },true) else if n == 1 then ({ dC h x with pos:=6 },true) else if n == 4 then ({ dC h x with pos:=7 },true)
   else if n == 8 then (anew (dC h x),true) else if n == 10 then (anew (dC h x),true) else (dC h x,false):=by
 subst F;subst G;rfl
theorem Aw (c:Ch) (h:Ha) (a b:Option Addr) (p q:Nat) (w:World) (h1:gG w w a c.cells) (Z:0≤h.cell) (a0:h.cell<c.cells.length) :
  Calls prog 200 #[.agg (aH c (.slice a c.cells p) (.slice b c.words q)),.agg (aB h)] w fun r w'=>r=.returned (.tuple #[.agg (aB (kZ c h).1),.bool (kZ c h).2])∧Below w w w':=by
 obtain ⟨i,H⟩:∃ i:Nat,h.cell=(i:Int):=⟨h.cell.toNat,by omega⟩;have hi:i<c.cells.length:=tO;obtain ⟨I,bo,rfl,hb,G⟩:∃ M o,a=some ⟨M,o,none⟩∧M<w.heap.size∧Hid (∀ j,j<3→w.cell? ⟨M,o+i*3+j,none⟩=some ((c.cells.getD i ⟨0,0,0⟩).val j)):=by
  rcases h1 with h0|⟨M,o',e,h1,h2⟩
  ·omega
  ·exact ⟨M,o',e,h1,fun j hj=>by simpa [jy] using h2 i j hi hj⟩
 clear h1;have c0:=G.out 0 tO;have c2:=G.out 2 tO;have L:Hid (cellAt c h.cell=c.cells.getD i ⟨0,0,0⟩):=by simp [cellAt,Hid,H]
 clear G;generalize c.cells.getD i ⟨0,0,0⟩=x at *;obtain ⟨s,e,t⟩:=x;simp only [C3.val,Nat.add_zero] at c0 c2;have a1:(0:Int)≤(i:Int):=tO;have a2:(i:Int)<(c.cells.length:Int):=tO;have X:I<w.heap.size+1:=tO;have Y:I<w.heap.size+1+1:=tO;have a3:I≠w.heap.size:=tO;have T:I≠w.heap.size+1:=tO;have U:I≠w.heap.size+1+1:=tO;by_cases R:s=0∨s=1∨s=4∨s=8∨s=10
 ·rcases R with rfl|rfl|rfl|rfl|rfl
  ·rw [show kZ c h=({ dC h ⟨0,e,t⟩ with pos:=4 },true) from qL L.out 0 rfl]
   go_enter func200,ntmps200
   go_wp2;refine bodyPost_ret (jZ results200 rfl (aQ { dC h ⟨0,e,t⟩ with pos:=4 } CE)) rfl ⟨rfl,zB⟩
  ·rw [show kZ c h=({ dC h ⟨1,e,t⟩ with pos:=6 },true) from qL L.out 1 rfl]
   go_enter func200,ntmps200
   go_wp2;refine bodyPost_ret (jZ results200 rfl (aQ { dC h ⟨1,e,t⟩ with pos:=6 } CE)) rfl ⟨rfl,zB⟩
  ·rw [show kZ c h=({ dC h ⟨4,e,t⟩ with pos:=7 },true) from qL L.out 4 rfl]
   go_enter func200,ntmps200
   go_wp2;refine bodyPost_ret (jZ results200 rfl (aQ { dC h ⟨4,e,t⟩ with pos:=7 } CE)) rfl ⟨rfl,zB⟩
  ·rw [show kZ c h=(anew (dC h ⟨8,e,t⟩),true) from qL L.out 8 rfl]
   go_enter func200,ntmps200
   go_wp2_with fail;refine aK w zB fun I=>?_;refine (nD _ _).mono ?_;rintro _ w1 ⟨rfl,F⟩;obtain ⟨N,J,K⟩:=sG I F (b:=w);(try simp at J);(try simp [go_sem] at K);replace V:=pq K;clear K F I
   go_wp2;refine bodyPost_ret (jZ results200 rfl (aQ (anew (dC h ⟨8,e,t⟩)) CE)) rfl ⟨rfl,zB⟩
  ·rw [show kZ c h=(anew (dC h ⟨10,e,t⟩),true) from qL L.out 10 rfl]
   go_enter func200,ntmps200
   go_wp2_with fail;refine aK w zB fun I=>?_;refine (nD _ _).mono ?_;rintro _ w1 ⟨rfl,F⟩;obtain ⟨N,J,K⟩:=sG I F (b:=w);(try simp at J);(try simp [go_sem] at K);replace V:=pq K;clear K F I
   go_wp2;refine bodyPost_ret (jZ results200 rfl (aQ (anew (dC h ⟨10,e,t⟩)) CE)) rfl ⟨rfl,zB⟩
 ·have n0:(s == 0)=false:=by simp;omega
  have n1:(s == 1)=false:=by simp;omega
  have n4:(s == 4)=false:=by simp;omega
  have n8:(s == 8)=false:=by simp;omega
  have O:(s == 10)=false:=by simp;omega
  rw [show kZ c h=(dC h ⟨s,e,t⟩,false) from by rw [qL L.out s rfl,n0,n1,n4,n8,O];rfl]
  clear R;go_enter func200,ntmps200;go_wp2;refine bodyPost_ret (jZ results200 rfl (aQ (dC h ⟨s,e,t⟩) CE)) rfl ⟨rfl,zB⟩
def KQ (w w':World) (lo:Nat) (v1 v2:Value) (c:Ch) (x:Ch × Ha) (r:Ending):Prop :=
 ∃ v3,r=.returned (.tuple #[.agg (aH c v1 v3),.agg (aB x.2)])∧aF w' lo v1 x.1.cells∧aI w' lo v3 x.1.words∧ic w v2 v3∧ni v1.ownBlock v2.ownBlock w w'
theorem Gl (c:Ch) (h:Ha) (K L el:Int) (v1 v2:Value) (lo:Nat) (w:World) (h1:aF w lo v1 c.cells) (h2:aI w lo v2 c.words) (X:80≤c.words.length) :
  Calls prog 213 #[.agg (aH c v1 v2),.agg (aB h),.int .i64 K,.int .i64 L,.int .i64 el] w fun r w'=>KQ w w' lo v1 v2 c (fA c h K L el) r:=by
 have e:fA c h K L el=(c,aM 4 0):=by simp [fA,X]
 rw [e];obtain ⟨U,q1,rfl,_⟩:=h1.seg;obtain ⟨V,q2,rfl,_⟩:=h2.seg;have R:=aA h1;have T:=aA h2;have Y:(80:Int)≤(c.words.length:Int):=tO;clear h1 h2 e;go_enter func213,ntmps213;go_wp2_with fail
 go_region_with (go_at_call 130;refine aK w zB fun N=>?_;refine (iy _ _ _).mono ?_;rintro _ w1 ⟨rfl,G⟩;obtain ⟨F,H,M⟩:=gZ N G (b:=w);(try simp at H);(try simp [go_sem] at M);replace bX:=fP M;clear M;have O:=F;clear G N)
 all_goals (go_wp2_with fail)
 all_goals (have I:=R.out;have J:=T.out;have Z:=own_below I F;have p2:=own_below J F)
 all_goals (refine bodyPost_ret (vR results213 rfl (bN c (.slice U c.cells q1) (.slice V c.words q2) tY) rfl (aQ (aM 4 0) tY)) rfl ⟨_,rfl,?_,?_,aP _ _,gy zB⟩)
 all_goals first|(repeat first|with_reducible exact Z|with_reducible refine xG ?_ _|with_reducible refine wM ?_|((with_reducible first|refine aV ?_ ?_ _|refine fC ?_ ?_);rotate_left;focus first|(refine own_ne I ?_;(try dsimp only);omega)|(refine dN I ?_;(try dsimp only);omega)))|skip
 all_goals first|(repeat first|with_reducible exact p2|with_reducible refine xG ?_ _|with_reducible refine wM ?_|((with_reducible first|refine aV ?_ ?_ _|refine fC ?_ ?_);rotate_left;focus first|(refine own_ne J ?_;(try dsimp only);omega)|(refine dN J ?_;(try dsimp only);omega)))|skip
theorem Mt (c:Ch) (h:Ha) (G O el:Int) (v1 v2:Value) (lo:Nat) (w:World) (h1:aF w lo v1 c.cells) (h2:aI w lo v2 c.words) (hf:c.words.length<80) (a0:0≤h.cell) (a3:h.cell<c.cells.length) (ht:bB c h.cell h.seen G (c.words.length+1)=false) :
  Calls prog 213 #[.agg (aH c v1 v2),.agg (aB h),.int .i64 G,.int .i64 O,.int .i64 el] w fun r w'=>KQ w w' lo v1 v2 c (fA c h G O el) r:=by
 have V:¬ 80≤c.words.length:=tO;have e:fA c h G O el=(bU c h.cell h.seen G (c.words.length+1),{ h with pos:=el }):=by simp [fA,V,ht]
 rw [e];obtain ⟨i,L⟩:∃ i:Nat,h.cell=(i:Int):=⟨h.cell.toNat,by omega⟩;have hi:i<c.cells.length:=tO;have X:=aA h1;have Y:=aA h2;have T:=aA (lM c i h.seen G ((c.words.length:Int)+1) v1 v2 lo);rw [L] at ht ⊢;have K:=nC h1;obtain ⟨H,J,rfl,_⟩:=h1.seg;obtain ⟨Z,q2,rfl,_⟩:=h2.seg;have a4:¬ (80:Int)≤(c.words.length:Int):=tO;have nw:some w.heap.size≠(Value.slice H c.cells J).ownBlock:=fun e=>by have:=K _ e.symm;omega
 have a5:some (w.heap.size+1)≠(Value.slice H c.cells J).ownBlock:=fun e=>by have:=K _ e.symm;omega
 have a6:some (w.heap.size+1+1)≠(Value.slice H c.cells J).ownBlock:=fun e=>by have:=K _ e.symm;omega
 have a7:some (w.heap.size+1+1+1)≠(Value.slice H c.cells J).ownBlock:=fun e=>by have:=K _ e.symm;omega
 clear h1 h2 e hf V;go_enter func213,ntmps213;have M:=X.out;have N:=Y.out;go_wp2_with fail;refine (T.out _ (zO M M) (zO N N) hi).mono ?_;rintro _ w1 ⟨rfl,p1,p2,F⟩;have I:=F.size;(try (simp at I));have R:=Vv F (b:=w);(try simp [go_sem] at R);replace bX:=fP R;clear R;have U:=NT (w:=w) zB F;clear F;rw [ht];go_wp2
 go_region
 go_wp2;refine bodyPost_ret (vR results213 rfl (bN c (.slice H c.cells J) (.slice Z c.words q2) tY) rfl (aQ { h with pos:=el,cell:=(i:Int) } tZ)) rfl ⟨_,rfl,?_,?_,aP _ _,rA (by (repeat (first|with_reducible assumption|with_reducible refine Wv ?_|with_reducible refine Ww ?_|((with_reducible refine Wy ?_ ?_);rotate_left;(focus ((try dsimp only);(try simp);(try omega))))|((with_reducible refine Wx ?_ ?_);rotate_left;(focus ((try dsimp only);(try simp);(try omega)))))))⟩
 ·exact zO p1 M
 ·show aI _ lo _ c.words
  exact zO p2 N
theorem Sl (w:World) (x:Value) (t:TypeId):∀ j u,[x][j]?=some u→(w.alloc (.cells #[x] t)).cell? ((⟨w,0,none⟩:Addr).add j)=some u:=by
 intro j u h;have F:j<1:=(List.getElem?_eq_some_iff.1 h).1;have:j=0:=by omega
 subst this;simp [Addr.add] at h ⊢;exact h
theorem Jg (c:Ch) (h:Ha) (st th el:Int) (v1 v2:Value) (lo:Nat) (w:World) (h1:aF w lo v1 c.cells) (h2:aI w lo v2 c.words) (hf:c.words.length<80) (al:0≤h.cell) (am:h.cell<c.cells.length) (ht:bB c h.cell h.seen st (c.words.length+1)=true) (ao:lo≤w.heap.size) :
  Calls prog 213 #[.agg (aH c v1 v2),.agg (aB h),.int .i64 st,.int .i64 th,.int .i64 el] w fun r w'=>KQ w w' lo v1 v2 c (fA c h st th el) r:=by
 have hn:¬ 80≤c.words.length:=tO;have e:fA c h st th el=({ bU c h.cell h.seen st (c.words.length+1) with words:=c.words ++ [0] },{ h with mine:=c.words.length+1,pos:=th }):=by simp [fA,hn,ht]
 rw [e];obtain ⟨i,ad⟩:∃ i:Nat,h.cell=(i:Int):=⟨h.cell.toNat,by omega⟩;have hi:i<c.cells.length:=tO;have O1:=aA h1;have O2:=aA h2;have T:=aA (lM c i h.seen st ((c.words.length:Int)+1) v1 v2 lo);rw [ad] at ht ⊢;have b2:=nC h2;have b1:=nC h1;obtain ⟨a1,q1,rfl,_⟩:=h1.seg;obtain ⟨a2,q2,rfl,_⟩:=h2.seg;have an:¬ (80:Int)≤(c.words.length:Int):=tO;have nw:some w.heap.size≠(Value.slice a1 c.cells q1).ownBlock:=fun e=>by have:=b1 _ e.symm;omega
 have aw:some (w.heap.size+1)≠(Value.slice a1 c.cells q1).ownBlock:=fun e=>by have:=b1 _ e.symm;omega
 have ax:some (w.heap.size+1+1)≠(Value.slice a1 c.cells q1).ownBlock:=fun e=>by have:=b1 _ e.symm;omega
 have ay:some (w.heap.size+1+1+1)≠(Value.slice a1 c.cells q1).ownBlock:=fun e=>by have:=b1 _ e.symm;omega
 have mw:∀ j,w.heap.size≤j→some j≠(Value.slice a2 c.words q2).ownBlock:=fun j hj e=>by have:=b2 _ e.symm;omega
 have ap:=mw w tO;have aq:=mw (w+1) tO;have ar:=mw (w+1+1) tO;have au:=mw (w+1+1+1) tO;clear h1 h2 e hf hn;go_enter func213,ntmps213;have o1:=O1.out;have o2:=O2.out;go_wp2_with fail;refine (T.out _ (zO o1 o1) (zO o2 o2) hi).mono ?_;rintro _ w1 ⟨rfl,p1,p2,I⟩;have aa:=I.size;(try (simp at aa));have zz:=And.intro (bM I (b:=w+1+1+1) tS dM) <| And.intro (bM I (b:=w+1+1) tS dM) <| And.intro (bM I (b:=w+1) tS dM) <| bM I (b:=w) tS dM;(try simp [go_sem] at zz);(try clear F M K H);(try clear G R O L);(try clear J a0 X U);(try clear V a7 a6 a4);obtain ⟨F,G,J,V⟩:=zz;obtain ⟨M,K,H⟩:=bO F;obtain ⟨R,O,L⟩:=bO G;obtain ⟨a0,X,U⟩:=bO J;obtain ⟨a7,a6,a4⟩:=bO V;have a9:=NT (w:=w) zB I;clear I
 rw [ht];obtain ⟨i0,ag,ah,ai,aj⟩:=info_parts pR;go_wp2_with (at_builtin;refine wpList_append_lies _ rfl _ _ 29 rfl lo 2 i0 _ 1 8 underlying29 ag ah ai aj rfl cB (.slice a2 c.words q2) c.words (ints c.words) rfl (World.ownsRow.alloc (World.ownsRow.alloc p2 _) _) ⟨w1+1,0,none⟩ 1 1 [.int .i64 0] rfl rfl ?c2 CF tO ?c3 ?c4 ?c5 (w1+1+1) cK ?_)
 case c2=>have:=Sl (w1.alloc (.cells (aH c (.slice a1 c.cells q1) (.slice a2 c.words q2)) 31)) (.int .i64 0) 2;simpa using this
 case c3=>unfold maxLen;omega
 case c4=>omega
 case c5=>simp;omega
 intro Y q4 w4 o4 g4 N ak;have av:=mw w1 tO;have Z:w1<w1.heap.size+1:=tO;have ab:=g4.size;(try (simp at ab));have zz:=And.intro (bM g4 (b:=w1) tS dM) <| And.intro (bM g4 (b:=w+1+1+1) tS dM) <| And.intro (bM g4 (b:=w+1+1) tS dM) <| And.intro (bM g4 (b:=w+1) tS dM) <| bM g4 (b:=w) tS dM;(first|simp [go_sem,F,G,J,V,a4,Z,U,L,H] at zz|simp [go_sem] at zz|skip);(try clear a5 ac a8 Z);(try clear F M K H);(try clear G R O L);(try clear J a0 X U);(try clear V a7 a6 a4);obtain ⟨a5,F,G,J,V⟩:=zz;obtain ⟨ac,a8,Z⟩:=bO a5;obtain ⟨M,K,H⟩:=bO F;obtain ⟨R,O,L⟩:=bO G;obtain ⟨a0,X,U⟩:=bO J;obtain ⟨a7,a6,a4⟩:=bO V
 have r1:aF w4 lo (.slice a1 c.cells q1) (bU c (i:Int) h.seen st (c.words.length+1)).cells:=((World.ownsRow.alloc (World.ownsRow.alloc p1 _) _)).kept g4 (D9 p1 p2);have r2:aI w4 lo (.slice (some ⟨Y,0,none⟩) (c.words.length+1) q4) (c.words ++ [0]):=aI.snoc o4;have a3:ic w (.slice a2 c.words q2) (.slice (some ⟨Y,0,none⟩) (c.words.length+1) q4):=fun j hj=>by
  simp [Value.ownBlock] at hj;subst hj;rcases N with N|N
  ·exact .inl N
  ·exact .inr tO
 have ae:∀ j,w.heap.size≤j→j<w1.heap.size+1→Y≠j:=fun j h1 h2 e=>by
  rcases N with N|N
  ·have:=b2 _ N;omega
  ·omega
 clear o4;have af:∀ j,w.heap.size≤j→j<w1.heap.size+1→(Value.slice (some ⟨Y,0,none⟩) (c.words.length+1) q4).ownBlock≠some j:=fun j h1 h2 e=>ae j h1 h2 (by simpa [Value.ownBlock] using e)
 have hO:ni (Value.slice a1 c.cells q1).ownBlock (Value.slice a2 c.words q2).ownBlock w w4:=kv (rA a9) (kv (gy zB) (Wl g4));clear g4;obtain ⟨k0,k1,k2,k3⟩:=pz (a:=w) (b:=w1);go_wp2
 go_region
 go_wp2;refine bodyPost_ret (vR results213 rfl (bN c (.slice a1 c.cells q1) (.slice (some ⟨Y,0,none⟩) (c.words.length+1) q4) tY) rfl (aQ { h with cell:=(i:Int),mine:=c.words.length+1,pos:=th } tZ)) rfl ⟨_,rfl,?_,?_,a3,?_⟩
 ·exact zO r1 o1
 ·exact zP r2 r2 af
 ·exact zN
theorem wh (c:Ch) (h:Ha) (F I el:Int) (v1 v2:Value) (lo:Nat) (w:World) (h1:aF w lo v1 c.cells) (h2:aI w lo v2 c.words) (G:0≤h.cell) (H:h.cell<c.cells.length) (J:lo≤w.heap.size) :
  Calls prog 213 #[.agg (aH c v1 v2),.agg (aB h),.int .i64 F,.int .i64 I,.int .i64 el] w fun r w'=>KQ w w' lo v1 v2 c (fA c h F I el) r:=by
 by_cases K:80≤c.words.length
 ·exact Gl c h F I el v1 v2 lo w h1 h2 K
 ·cases ht:bB c h.cell h.seen F (c.words.length+1) with
  | true=>exact Jg c h F I el v1 v2 lo w h1 h2 tO G H ht J
  | false=>exact Mt c h F I el v1 v2 lo w h1 h2 tO G H ht
def eB (w w':World) (lo:Nat) (v1 v2:Value) (x:St) (r:Ending):Prop:=Ap w w' lo v1 v2 x r∧ni v1.ownBlock v2.ownBlock w w'
abbrev ed (F:FuncId) (c:Ch) (h:Ha) (v1 v2:Value) (lo:Nat) (w:World) (x:St):Prop:=Calls prog F #[.agg (aH c v1 v2),.agg (aB h)] w fun r w'=>eB w w' lo v1 v2 x r
theorem Jh (c:Ch) (h:Ha) (v1 v2:Value) (lo:Nat) (w:World) (h1:aF w lo v1 c.cells) (h2:aI w lo v2 c.words) (hs:(h.seen != 0 && h.seen != 1)=true) :
  Calls prog 201 #[.agg (aH c v1 v2),.agg (aB h)] w fun r w'=>eB w w' lo v1 v2 (jS c h) r:=by
 have e:jS c h=nothing:=by unfold jS;rw [if_pos hs]
 rw [e];have T:=aA (jL · lo v1 v2);generalize nothing=x at *;have X:=nC h1;have Y:=nC h2;obtain ⟨a1,q1,Z,_⟩:=h1.seg;obtain ⟨a2,q2,e2,_⟩:=h2.seg;simp at hs;have a0:(h.seen != 0)=true:=by simpa using hs.1
 have a3:(h.seen != 1)=true:=by simpa using hs.2
 subst Z e2;clear h1 h2 e hs;go_enter func201,ntmps201;go_wp2_with fail;refine aK w zB fun U=>?_;refine (T.out _).mono ?_;rintro _ w1 ⟨⟨y1,y2,rfl,I,J,L,M⟩,F⟩;obtain ⟨V,K,R⟩:=gZ U F (b:=w);(try simp at K);(try simp [go_sem] at R);replace bX:=fP R;clear R F U
 obtain ⟨⟨G,H⟩,N,O⟩:=sO (w:=w) (w+1+1+1+1) L M X Y;obtain ⟨ya,yp,rfl,_⟩:=I.seg;obtain ⟨yb,yq,rfl,_⟩:=J.seg;go_wp2;refine rE results201 rfl (bN x.1 (.slice ya x.1.cells yp) (.slice yb x.1.words yq) tY) rfl (aQ x.2.1 tY) ⟨⟨_,_,rfl,?_,?_,N,O⟩,gy zB⟩
 ·exact zP I I G
 ·exact zP J J H
theorem ic.trans {w W:World} {v v1 v2:Value} (h:ic w v v1) (k:ic W v1 v2) (hs:w≤W.heap.size):ic w v v2:=fun j F=>by
 rcases k j F with h1|h1
 ·exact h j h1
 ·exact .inr (Nat.le_trans hs h1)
theorem wm (c:Ch) (h:Ha) (F G el:Int) (a b:Value):aH (fA c h F G el).1 a b=aH c a b:=by
 unfold fA;split
 ·rfl
 ·split <;> rfl
theorem Ji (c:Ch) (h:Ha) (v1 v2:Value) (lo:Nat) (w:World) (h1:aF w lo v1 c.cells) (h2:aI w lo v2 c.words) (aa:lo≤w.heap.size) (a5:0≤h.cell) (a6:h.cell<c.cells.length) (hs:h.seen=0) (a7:h.come≤h.cell) (a8:h.fin≤h.cell) :
  Calls prog 201 #[.agg (aH c v1 v2),.agg (aB h)] w fun r w'=>eB w w' lo v1 v2 (jS c h) r:=by
 have e:jS c h=done (fA c h 3 23 3).1 (fA c h 3 23 3).2:=by simp [jS,hs,a7,a8]
 rw [e];have T:=aA fun W a b=>wh c h 3 23 3 v1 v2 lo W a b a5 a6
 have D:=aA fun v3 W=>bV (fA c h 3 23 3).1 (fA c h 3 23 3).2 v1 v3 lo W
 have I:=aA (wm c h 3 23 3);generalize done (fA c h 3 23 3).1 (fA c h 3 23 3).2=x at *;generalize fA c h 3 23 3=y at *;have b1:=nC h1;have b2:=nC h2;have X:=sH b1;have Y:=sH b2;have ab:=X w tO;have ac:=X (w+1) tO;have ad:=X (w+1+1) tO;have ae:=X (w+1+1+1) tO;have af:=Y w tO;have ag:=Y (w+1) tO;have ah:=Y (w+1+1) tO;have ai:=Y (w+1+1+1) tO;have o1:=h1;have o2:=h2;obtain ⟨a1,q1,e1,_⟩:=h1.seg;obtain ⟨a2,q2,e2,_⟩:=h2.seg
 subst e1 e2;clear h1 h2 e;go_enter func201,ntmps201;go_wp2_with fail;refine (T.out _ (zO o1 o1) (zO o2 o2) dQ).mono ?_;rintro _ w1 ⟨v3,rfl,p1,p2,f3,V⟩;have R:=V.2.2.2.1;(try (simp at R));have G:=QU V (b:=w);(try simp [go_sem] at G);replace bX:=fP G;clear G;rw [← I.out];obtain ⟨a3,q3,rfl,_⟩:=p2.seg;have O:ni (Value.slice a1 c.cells q1).ownBlock (Value.slice a2 c.words q2).ownBlock w w1:=kv (gy zB) V
 clear V;obtain ⟨k0,k1,k2,k3⟩:=pz (a:=w) (b:=w1);go_wp2_with fail;refine aK w1 zB fun bk=>?_;refine (D.out _ _ (zO p1 p1) (zO p2 p2)).mono ?_;rintro _ w2 ⟨⟨y1,y2,rfl,L,M,Z,H⟩,F⟩;have U:=F.size;(try simp at U);have G:=NS F (b:=w);(first|simp [go_sem,bX,k0,k1,k2,k3] at G|simp [go_sem] at G|skip);replace bX:=fP G;clear G;have N:=bT bk F;clear F bk
 have a9:=kv O (gy N);replace H:=f3.trans H tS;clear O f3;obtain ⟨⟨J,K⟩,a0,a4⟩:=sO (w:=w) (w+1+1+1+1) Z H b1 b2;obtain ⟨ya,yp,rfl,_⟩:=L.seg;obtain ⟨yb,yq,rfl,_⟩:=M.seg;go_wp2;refine rE results201 rfl (bN x.1 (.slice ya x.1.cells yp) (.slice yb x.1.words yq) tY) rfl (aQ x.2.1 tY) ⟨⟨_,_,rfl,?_,?_,a0,a4⟩,zN⟩
 ·exact zP L L J
 ·exact zP M M K
theorem Gm (c:Ch) (h:Ha) (v1 v2:Value) (lo:Nat) (w:World) (h1:aF w lo v1 c.cells) (h2:aI w lo v2 c.words) (R:0≤h.cell) (U:h.cell<c.cells.length) (I:h.seen=1) (ht:bB c h.cell h.seen 2 0=false) :
    ed 201 c h v1 v2 lo w (jS c h):=by
  obtain ⟨i,H⟩:∃ i:Nat,h.cell=(i:Int):=⟨h.cell.toNat,by omega⟩;have hs:=I;rw [H,hs] at ht;have e:jS c h=done (bU c i 1 2 0) { h with pos:=3,cell:=(i:Int),seen:=1 }:=by simp [jS,hs,H,ht]
  rw [e];have V:i<c.cells.length:=tO;have T:=aA fun W a b=>lM c i 1 2 0 v1 v2 lo W a b V
  have D:=aA fun W=>bV (bU c i 1 2 0) { h with pos:=3,cell:=(i:Int),seen:=1 } v1 v2 lo W
  generalize done (bU c i 1 2 0) { h with pos:=3,cell:=(i:Int),seen:=1 }=x at *
  rw [ht] at T;have b1:=nC h1;have b2:=nC h2;have K:=sH b1;have X:=K w tO;have Y:=K (w+1) tO;have Z:=K (w+1+1) tO;have a0:=K (w+1+1+1) tO;have o1:=h1;have o2:=h2;obtain ⟨a1,q1,M,_⟩:=h1.seg;obtain ⟨a2,q2,N,_⟩:=h2.seg;subst M N;clear h1 h2 e I;go_enter func201,ntmps201;go_wp2_with fail;refine (T.out _ (zO o1 o1) (zO o2 o2)).mono ?_;rintro _ L ⟨rfl,p1,p2,F⟩;have J:=F.size;(try (simp at J));have zz:=Vv F (b:=w);(try simp [go_sem] at zz);replace bX:=fP zz;clear zz;have G:=NT (w:=w) zB F;clear F
  have O:ni (Value.slice a1 c.cells q1).ownBlock (Value.slice a2 c.words q2).ownBlock w L:=rA G;obtain ⟨k0,k1,k2,k3⟩:=pz (a:=w) (b:=L);have r1:aF L lo (.slice a1 c.cells q1) (bU c i 1 2 0).cells:=p1;have r2:aI L lo (.slice a2 c.words q2) (bU c i 1 2 0).words:=p2;exact Uq
theorem xm (c:Ch) (h:Ha) (v1 v2:Value) (lo:Nat) (w:World) (h1:aF w lo v1 c.cells) (h2:aI w lo v2 c.words) (Z:0≤h.cell) (a0:h.cell<c.cells.length) (I:h.seen=0) :
    (∀ (K:h.cell<h.come) (ht:bB c h.cell h.seen 2 0=false),Calls prog 201 #[.agg (aH c v1 v2),.agg (aB h)] w fun r w'=>eB w w' lo v1 v2 (jS c h) r) ∧
    (∀ (K:h.come≤h.cell) (U:h.cell<h.fin) (ht:bB c h.cell h.seen 2 0=false),Calls prog 201 #[.agg (aH c v1 v2),.agg (aB h)] w fun r w'=>eB w w' lo v1 v2 (jS c h) r):=by
  constructor
  case' left =>
    intro K ht;have M:Hid (0=0):=rfl
  case' right =>
    intro K U ht;have N:Hid (0=0):=rfl
  all_goals
    obtain ⟨i,G⟩:∃ i:Nat,h.cell=(i:Int):=⟨h.cell.toNat,by omega⟩;have hs:=I;rw [G,hs] at ht
    first
    | (replace M:=M;have e:jS c h=done (bU c i 0 2 0) { h with pos:=3,cell:=(i:Int),seen:=0 }:=by simp [jS,hs,G,ht,show ¬ h.come≤i by omega])
    | (replace N:=N;have e:jS c h=done (bU c i 0 2 0) { h with pos:=3,cell:=(i:Int),seen:=0 }:=by simp [jS,hs,G,ht,show ¬ h.fin≤i by omega])
    rw [e];have hi:i<c.cells.length:=tO;have T:=aA fun W a b=>lM c i 0 2 0 v1 v2 lo W a b hi
    have D:=aA fun W=>bV (bU c i 0 2 0) { h with pos:=3,cell:=(i:Int),seen:=0 } v1 v2 lo W
    generalize done (bU c i 0 2 0) { h with pos:=3,cell:=(i:Int),seen:=0 }=x at *
    rw [ht] at T;have b1:=nC h1;have b2:=nC h2;have L:=sH b1;have a4:=L w tO;have a5:=L (w+1) tO;have a6:=L (w+1+1) tO;have a7:=L (w+1+1+1) tO;have o1:=h1;have o2:=h2;obtain ⟨a1,q1,V,_⟩:=h1.seg;obtain ⟨a2,q2,X,_⟩:=h2.seg;subst V X;clear h1 h2 e I
    first
    | (replace M:=M
       have R:¬ h.come≤(i:Int):=tO
       clear K)
    | (replace N:=N
       have R:h.come≤(i:Int):=tO;have a3:¬ h.fin≤(i:Int):=tO
       clear K U)
    go_enter func201,ntmps201
    go_wp2_with fail;refine (T.out _ (zO o1 o1) (zO o2 o2)).mono ?_;rintro _ O ⟨rfl,p1,p2,F⟩;have J:=F.size;(try (simp at J));have zz:=Vv F (b:=w);(try simp [go_sem] at zz);replace bX:=fP zz;clear zz;have H:=NT (w:=w) zB F;clear F
    have Y:ni (Value.slice a1 c.cells q1).ownBlock (Value.slice a2 c.words q2).ownBlock w O:=rA H;obtain ⟨k0,k1,k2,k3⟩:=pz (a:=w) (b:=O);have r1:aF O lo (.slice a1 c.cells q1) (bU c i 0 2 0).cells:=p1;have r2:aI O lo (.slice a2 c.words q2) (bU c i 0 2 0).words:=p2;exact Uq
theorem Gn (c:Ch) (h:Ha) (v1 v2:Value) (lo:Nat) (w:World) (h1:aF w lo v1 c.cells) (h2:aI w lo v2 c.words) (F:0≤h.cell) (G:h.cell<c.cells.length) (H:h.seen=0) (I:h.cell<h.come) (ht:bB c h.cell h.seen 2 0=false) :
    Calls prog 201 #[.agg (aH c v1 v2),.agg (aB h)] w fun r w'=>eB w w' lo v1 v2 (jS c h) r:=(xm c h v1 v2 lo w h1 h2 F G H).1 I ht
theorem Gq (c:Ch) (h:Ha) (v1 v2:Value) (lo:Nat) (w:World) (h1:aF w lo v1 c.cells) (h2:aI w lo v2 c.words) (F:0≤h.cell) (G:h.cell<c.cells.length) (H:h.seen=0) (I:h.come≤h.cell) (J:h.cell<h.fin) (ht:bB c h.cell h.seen 2 0=false) :
    Calls prog 201 #[.agg (aH c v1 v2),.agg (aB h)] w fun r w'=>eB w w' lo v1 v2 (jS c h) r:=(xm c h v1 v2 lo w h1 h2 F G H).2 I J ht
end
end Go.Proofs.YtffhjmepfojhnaaGreat
