/-
  The reference model's copy of a world: the same in new memory; lists lie in memory and hold at most 2 ^ 40 elements.
-/
import Derived.Test.YtffhjmepfojhnaaGreatT08
import Derived.Test.YtffhjmepfojhnaaGreatT01
import Derived.Test.YtffhjmepfojhnaaGreatT03
import Derived.Deep.AppendLies
set_option maxRecDepth 100000
set_option maxHeartbeats 4000000
set_option linter.unusedSimpArgs false
set_option linter.unusedVariables false
namespace Go.Proofs.YtffhjmepfojhnaaGreat
open _root_.Go.Proofs.Tryz
open Go.RowKit
theorem dF {w:World} {lo lo':Nat} {e L:TypeId} {k O n R:Nat} {v v':Value} {T I:List Value} (h:w.ownsRow lo e k v n T) (h':w.ownsRow lo' L O v' R I) (H:e≠L):v.ownBlock=none∨v.ownBlock≠v'.ownBlock:=by
 rcases h.2 with ⟨rfl,_⟩|⟨g,cap,M,rfl,_,N,_⟩
 ·exact .inl rfl
 ·refine .inr fun G=>?_
  rcases h'.2 with ⟨rfl,_⟩|⟨g',J,K,rfl,_,F,_⟩
  ·cases G
  ·simp [Value.ownBlock] at G
   subst G;rw [N] at F;simp at F;exact H F.2
theorem jK {w I:World} {lo lo':Nat} {e H:TypeId} {k K n L:Nat} {v v':Value} {J G:List Value} (h:w.ownsRow lo e k v n J) (h':w.ownsRow lo' H K v' L G) (F:e≠H) (g:w.grownBy I v'.ownBlock):I.ownsRow lo e k v n J:=h.kept g (dF h h' F)
theorem KR (w:World) (r:Option Nat):w.grownBy w r:=⟨rfl,rfl,rfl,Nat.le_refl _,fun _ _ _=>rfl⟩
theorem Gs {P:Program} {R:Array Oper} {o:Oper} {a:Act} {K:Act→World→Prop} {Q:Exit→Act→World→Prop} {E:Prop} {w:World} (U:o.guard=none) (s x:Operand) (t:TypeId)
  (ho:o.op=.call { callee:=.builtin .append,args:=#[s,x],argTypes:=#[t,t] })
  (F:Nat) (e:TypeId) (i:TypeInfo) (z:Value) (size I:Nat) (ht:P.underlying t=some (.slice e)) (Z:P.info? e=some i) (hz:i.zero=some z)
  (N:i.size=size) (T:i.bytes=I) (Y:z.cells.size=size) (V:0<size)
  (v:Value) (hs:a.eval s=v) (H:w.ownsRow F e size v 0 [])
  (b:Option Addr) (m c:Nat) (G:List Value) (hx:a.eval x=.slice b m c) (X:b=none→m=0∧c=0) (hl:G.length=m*size) (M:∀ O,b=some O→∀ j u,G[j]?=some u→w.cell? (O.add j)=some u) (h1:∀ u ∈ G,u.oneCell'=true)
  (a0:m≤maxLen) (J:m*I≤140737488355328) (L:F≤w.heap.size)
  (h:∀ v' w',w.ownsRow F e size v 0 []→w'.ownsRow F e size v' m G→w.grownBy w' v.ownBlock→K (a.put o.dst v') w') :
  if Region.wanted o (yielded R a.tmps)=true then Oper.wp P o a w K Q else E:=by
 have hw:Region.wanted o (yielded R a.tmps)=true:=by simp [Region.wanted,U]
 rw [if_pos hw];rcases b with _|O
 ·obtain ⟨rfl,rfl⟩:=X rfl
  have hr:=run_append_owned_none (P:=P) (w:=w) F t o.type e i size ht Z v 0 [] H;obtain rfl:G=[]:=List.eq_nil_of_length_eq_zero (by simpa using hl);unfold Oper.wp execOp;simp only [ho,resolve,invoke,builtin,Sem.run_bind,Sem.run_pure,Result.andThen_ok,List.map_toArray,List.map_cons,List.map_nil,hs,hx,hr];exact h v w H H (KR _ _)
 ·obtain ⟨v',w',hr,r1,r2,_⟩:=run_append_own (P:=P) w F t o.type e i z size I ht Z hz N T Y V v 0 [] H O m c G hl (M O rfl) h1 tO yw L
  unfold Oper.wp execOp;simp only [ho,resolve,invoke,builtin,Sem.run_bind,Sem.run_pure,Result.andThen_ok,List.map_toArray,List.map_cons,List.map_nil,hs,hx,hr];exact h v' w' H (by simpa using r1) r2
theorem Dj:(Tryz.prog.info? 49).map (fun i=>(i.zero,i.size,i.bytes))=some (some (.agg (aB Ha.zero)),14,112):=by kernel_rfl
theorem xO:(Tryz.prog.info? 44).map (fun i=>(i.zero,i.size,i.bytes))=some (some (.agg (jk De.zero)),7,56):=by kernel_rfl
theorem Seg.news {w:World} {B n k:Nat} {b:Option Addr} {f:Nat→Nat→Value} {I:List Value} (h:Seg w B b n k f) (U:I.length=n*k) (R:∀ i j,i<n→j<k→I[i*k+j]?=some (f i j)):∀ G,b=some G→∀ j u,I[j]?=some u→w.cell? (G.add j)=some u:=by
 intro G e j u F;have H:j<n*k:=by rw [← U];exact (List.getElem?_eq_some_iff.1 F).1
 have T:0<k:=Nat.pos_of_ne_zero fun e=>by subst e;simp at H
 rcases h with O|⟨V,X,J,_,hc⟩
 ·subst O;simp at H
 ·subst e
  simp at J;subst J;have N:j=j / k*k+j % k:=by have:=Nat.div_add_mod j k;rw [Nat.mul_comm] at this;omega
  have L:j / k<n:=Nat.div_lt_of_lt_mul (by rw [Nat.mul_comm];exact H);have M:j % k<k:=Nat.mod_lt _ T;have K:=R (j / k) (j % k) L M;rw [← N] at K;rw [K] at F;simp at F;rw [← F,← hc (j / k) (j % k) L M];congr 1;by_cases e:j=0
  ·subst e;simp [Addr.add]
  ·simp [Addr.add,e];omega
theorem iR (x:Wo) (a b d e:Option Addr) (p q r s:Nat) (w:World) (h1:gG w w a x.ch.cells) (z1:a=none→p=0) (h2:gI w w b x.ch.words) (z2:b=none→q=0) (h3:qX w w d x.hands) (z3:d=none→x.hands.length=0∧r=0) (h4:uh w w e x.deals) (z4:e=none→x.deals.length=0∧s=0) (m1:x.ch.cells.length≤1099511627776) (m2:x.ch.words.length≤1099511627776) (m3:x.hands.length≤1099511627776) (m4:x.deals.length≤1099511627776) :
  Calls prog 71 #[oI x a b d e p q r s] w fun r w' =>
   (∃ v1 v2 v3 v4,r=.returned (.agg #[x.ch.cap,x.ch.sent,x.ch.got,x.ch.fin,v1,v2,v3,v4,x.now])∧aF w' w v1 x.ch.cells∧aI w' w v2 x.ch.words∧dY w' w v3 x.hands∧gU w' w v4 x.deals)∧Below w w w':=by
 obtain ⟨i5,a0,a5,O,M⟩:=info_parts Dj;obtain ⟨i6,a1,a6,R,N⟩:=info_parts xO;have H1:=aA h1;have H2:=aA h2;have H3:=aA h3;have H4:=aA h4;have Z1:=aA z1;have Z2:=aA z2;have Y:=aA z3;have Z:=aA z4;clear h1 h2 h3 h4 z1 z2 z3 z4;go_enter func71,ntmps71;go_wp2_with fail
 go_region_held3 (fun w'=>∀ o,w'.cell? ⟨w,o,none⟩=#[Value.int .i64 x.ch.cap,.int .i64 x.ch.sent,.int .i64 x.ch.got,.int .i64 x.ch.fin,.slice a x.ch.cells p,.slice b x.ch.words q,.slice d x.hands r,.slice e x.deals s,.int .i64 x.now][o]?)
  (first|(intro o;simp [*,go_sem]))
  (first|(go_at_call 123;refine (vS x.ch a b p q _ ((H1.out.below zB).more tS) Z1.out ((H2.out.below zB).more tS) Z2.out m1 m2).mono ?_;rintro _ w4 ⟨⟨v1,v2,rfl,T,U⟩,F⟩;have ag:Below w w w4:=bT zB F;have a2:=F.size;(try simp at a2);have x4:=fun o=>F.cell (p:=⟨w,o,none⟩) iU;have y4:=fun o=>F.cell (p:=⟨w+1,o,none⟩) iU;have V:=fun o=>F.frozen (p:=⟨w+1,o,none⟩) iU;(try simp [go_sem] at x4);(try simp [go_sem] at y4);(try simp [go_sem] at V);have l4:w<w4.heap.size:=tO;have K:w+1<w4.heap.size:=tO;replace T:=aL (lo':=w+1+1) T iU;replace U:=aL (lo':=w+1+1) U iU;have a7:=T;have a8:=U;obtain ⟨va,vc,rfl,_⟩:=aF.seg T;obtain ⟨vb,vd,rfl,_⟩:=aI.seg U)|(refine Gs ja _ _ _ ja (w+1+1) 49 i5 _ 14 112 underlying32 a0 a5 O M rfl cB (.slice (some ⟨_,0,none⟩) 0 0) ja ?_ d x.hands r (lS x.hands) ja Y.out (nH _) (Seg.news (H3.out.below zB) (nH _) (nI _)) (LW _) zM tO iU ?_;(focus ((repeat (first|with_reducible refine World.ownsRow.drew ?_|((with_reducible refine iQ _ _ _ _ _ ?_ ?_) <;> (first|(simp;done)|(simp;omega)|omega))|with_reducible refine World.ownsRow.alloc ?_ _|with_reducible refine own_below ?_ F))));intro v5 w5 H o5 G;have ah:Below w w w5:=mO zB G iU (fun k hk=>by have:=(H.lt k hk).1;omega);have a3:=G.size;(try simp at a3);have x5:=fun o=>vQ G (b:=w) iU (fun e=>own_ne H tO e.symm) o;have y5:=fun o=>vQ G (b:=w+1) iU (fun e=>own_ne H tO e.symm) o;have X:=fun o=>Iy G (b:=w+1) iU (fun e=>own_ne H tO e.symm) o;(try simp [go_sem,x4,l4,K] at x5);(try simp [go_sem,y4,l4,K] at y5);(try simp [go_sem,V,l4,K] at X);have l5:w<w5.heap.size:=tO;have L:w+1<w5.heap.size:=tO;have a9:=o5;obtain ⟨ab,ad,rfl,_⟩:=dY.seg o5)|(refine Gs ja _ _ _ ja (w+1+1) 44 i6 _ 7 56 underlying33 a1 a6 R N rfl cB (.slice (some ⟨_,0,none⟩) 0 0) ja ?_ e x.deals s (oh x.deals) ja Z.out (Db _) (Seg.news (H4.out.below zB) (Db _) (uS _)) (LY _) zM tO iU ?_;(focus ((repeat (first|with_reducible refine World.ownsRow.drew ?_|((with_reducible refine iQ _ _ _ _ _ ?_ ?_) <;> (first|(simp;done)|(simp;omega)|omega))|with_reducible refine World.ownsRow.alloc ?_ _|with_reducible refine own_below ?_ F|with_reducible refine jK ?_ H cB G))));intro v6 w6 J o6 I;have ai:Below w w w6:=mO zB I iU (fun k hk=>by have:=(J.lt k hk).1;omega);have a4:=I.size;(try simp at a4);have x6:=fun o=>vQ I (b:=w) iU (fun e=>own_ne J tO e.symm) o;have y6:=fun o=>vQ I (b:=w+1) iU (fun e=>own_ne J tO e.symm) o;have af:=fun o=>Iy I (b:=w+1) iU (fun e=>own_ne J tO e.symm) o;(try simp [go_sem,x5,l5,L] at x6);(try simp [go_sem,y5,l5,L] at y6);(try simp [go_sem,X,l5,L] at af);have l6:w<w6.heap.size:=tO;have aj:w+1<w6.heap.size:=tO;have aa:=o6;obtain ⟨ac,ae,rfl,_⟩:=gU.seg o6))
 all_goals go_wp2
 all_goals (refine bodyPost_ret (v:=.agg #[x.ch.cap,x.ch.sent,x.ch.got,x.ch.fin,.slice va x.ch.cells vc,.slice vb x.ch.words vd,.slice ab x.hands ad,.slice ac x.deals ae,x.now]) (by simp [results,results71,go_sem, *]) rfl ⟨⟨_,_,_,_,rfl,aL (lo:=w+1+1) ?_ tO,aL (lo:=w+1+1) ?_ tO,aL (lo:=w+1+1) ?_ tO,aL (lo:=w+1+1) ?_ tO⟩,zB⟩)
 all_goals first|((repeat (first|with_reducible exact T|with_reducible refine World.ownsRow.drew ?_|with_reducible refine World.ownsRow.alloc ?_ _|((with_reducible refine aV ?_ ?_ _);rotate_left;(focus (refine own_ne a7 ?_;(try dsimp only);omega)))|with_reducible refine jK ?_ J cB I|with_reducible refine jK ?_ H cB G));done)|skip
 all_goals first|((repeat (first|with_reducible exact U|with_reducible refine World.ownsRow.drew ?_|with_reducible refine World.ownsRow.alloc ?_ _|((with_reducible refine aV ?_ ?_ _);rotate_left;(focus (refine own_ne a8 ?_;(try dsimp only);omega)))|with_reducible refine jK ?_ J cB I|with_reducible refine jK ?_ H cB G));done)|skip
 all_goals first|((repeat (first|with_reducible exact o5|with_reducible refine World.ownsRow.drew ?_|with_reducible refine World.ownsRow.alloc ?_ _|((with_reducible refine aV ?_ ?_ _);rotate_left;(focus (refine own_ne a9 ?_;(try dsimp only);omega)))|with_reducible refine jK ?_ J cB I|with_reducible refine jK ?_ H cB G));done)|skip
 all_goals first|((repeat (first|with_reducible exact o6|with_reducible refine World.ownsRow.drew ?_|with_reducible refine World.ownsRow.alloc ?_ _|((with_reducible refine aV ?_ ?_ _);rotate_left;(focus (refine own_ne aa ?_;(try dsimp only);omega)))|with_reducible refine jK ?_ J cB I|with_reducible refine jK ?_ H cB G));done)|skip
end Go.Proofs.YtffhjmepfojhnaaGreat
