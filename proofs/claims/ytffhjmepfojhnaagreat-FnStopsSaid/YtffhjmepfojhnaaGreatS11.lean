/-
  The reference model's copy of a world: the same in new memory; lists lie in memory and hold at most 2 ^ 40 elements.
-/
import Derived.Test.YtffhjmepfojhnaaGreatS08
import Derived.Test.YtffhjmepfojhnaaGreatS03
import Derived.Deep.AppendLies
set_option maxRecDepth 100000
set_option maxHeartbeats 4000000
set_option linter.unusedSimpArgs false
set_option linter.unusedVariables false
namespace Go.Proofs.YtffhjmepfojhnaaGreat
open _root_.Go.Proofs.Tryz
open Go.RowKit
theorem dD {w:World} {lo lo':Nat} {e A:TypeId} {k H n I:Nat} {v D:Value} {J u:List Value} (h:w.ownsRow lo e k v n J) (F:w.ownsRow lo' A H D I u) (r:e≠A):v.ownBlock=none∨v.ownBlock≠D.ownBlock:=by
 rcases h.2 with ⟨rfl,_⟩|⟨g,cap,E,rfl,_,G,_⟩
 ·exact .inl rfl
 ·refine .inr fun q=>?_
  rcases F.2 with ⟨rfl,_⟩|⟨K,y,z,rfl,_,m,_⟩
  ·cases q
  ·simp [Value.ownBlock] at q
   subst q
   rw [G] at m
   simp at m
   exact r m.2
theorem ji {w y:World} {lo lo':Nat} {e r:TypeId} {k D n E:Nat} {v u:Value} {z q:List Value} (h:w.ownsRow lo e k v n z) (A:w.ownsRow lo' r D u E q) (m:e≠r) (g:w.grownBy y u.ownBlock):y.ownsRow lo e k v n z:=h.kept g (dD h A m)
theorem Hy (w:World) (r:Option Nat):w.grownBy w r:=⟨rfl,rfl,rfl,Nat.le_refl _,fun _ _ _=>rfl⟩
theorem CR {P:Program} {L:Array Oper} {o:Oper} {a:Act} {K:Act→World→Prop} {Q:Exit→Act→World→Prop} {E:Prop} {w:World} (O:o.guard=none) (s x:Operand) (t:TypeId)
  (Z:o.op=.call { callee:=.builtin .append,args:=#[s,x],argTypes:=#[t,t] })
  (r:Nat) (e:TypeId) (i:TypeInfo) (z:Value) (q D:Nat) (ht:P.underlying t=some (.slice e)) (X:P.info? e=some i) (hz:i.zero=some z)
  (I:i.size=q) (N:i.bytes=D) (V:z.cells.size=q) (T:0<q)
  (v:Value) (hs:a.eval s=v) (A:w.ownsRow r e q v 0 [])
  (b:Option Addr) (m c:Nat) (y:List Value) (hx:a.eval x=.slice b m c) (U:b=none→m=0∧c=0) (Y:y.length=m*q) (H:∀ J,b=some J→∀ j u,y[j]?=some u→w.cell? (J.add j)=some u) (h1:∀ u ∈ y,u.oneCell'=true)
  (a0:m≤maxLen) (F:m*D≤140737488355328) (G:r≤w.heap.size)
  (h:∀ M w',w.ownsRow r e q v 0 []→w'.ownsRow r e q M m y→w.grownBy w' v.ownBlock→K (a.put o.dst M) w') :
  if Region.wanted o (yielded L a.tmps)=true then Oper.wp P o a w K Q else E:=by
 have hw:Region.wanted o (yielded L a.tmps)=true:=by simp [Region.wanted,O]
 rw [if_pos hw]
 rcases b with _|J
 ·obtain ⟨rfl,rfl⟩:=U rfl
  have R:=run_append_owned_none (P:=P) (w:=w) r t o.type e i q ht X v 0 [] A
  obtain rfl:y=[]:=List.eq_nil_of_length_eq_zero (by simpa using Y)
  unfold Oper.wp execOp
  simp only [Z,resolve,invoke,builtin,Sem.run_bind,Sem.run_pure,Result.andThen_ok,List.map_toArray,List.map_cons,List.map_nil,hs,hx,R]
  exact h v w A A (Hy _ _)
 ·obtain ⟨M,w',R,r1,r2,_⟩:=run_append_own (P:=P) w r t o.type e i z q D ht X hz I N V T v 0 [] A J m c y Y (H J rfl) h1 tO (by simpa using F) G
  unfold Oper.wp execOp
  simp only [Z,resolve,invoke,builtin,Sem.run_bind,Sem.run_pure,Result.andThen_ok,List.map_toArray,List.map_cons,List.map_nil,hs,hx,R]
  exact h M w' A (by simpa using r1) r2
theorem tJ:(Tryz.prog.info? 49).map (fun i=>(i.zero,i.size,i.bytes))=some (some (.agg (aB Ha.zero)),14,112):=by kernel_rfl
theorem nV:(Tryz.prog.info? 44).map (fun i=>(i.zero,i.size,i.bytes))=some (some (.agg (gM De.zero)),7,56):=by kernel_rfl
theorem Seg.news {w:World} {B n k:Nat} {b:Option Addr} {f:Nat→Nat→Value} {y:List Value} (h:Seg w B b n k f) (K:y.length=n*k) (I:∀ i j,i<n→j<k→y[i*k+j]?=some (f i j)):∀ q,b=some q→∀ j u,y[j]?=some u→w.cell? (q.add j)=some u:=by
 intro q e j u m
 have r:j<n*k:=by rw [← K];exact (List.getElem?_eq_some_iff.1 m).1
 have J:0<k:=Nat.pos_of_ne_zero fun e=>by subst e;simp at r
 rcases h with G|⟨L,M,z,_,H⟩
 ·subst G;simp at r
 ·subst e
  simp at z
  subst z
  have F:j=j / k*k+j % k:=by have:=Nat.div_add_mod j k;rw [Nat.mul_comm] at this;omega
  have D:j / k<n:=Nat.div_lt_of_lt_mul (by rw [Nat.mul_comm];exact r)
  have E:j % k<k:=Nat.mod_lt _ J
  have A:=I (j / k) (j % k) D E
  rw [← F] at A
  rw [A] at m
  simp at m
  rw [← m,← H (j / k) (j % k) D E]
  congr 1
  by_cases e:j=0
  ·subst e;simp [Addr.add]
  ·simp [Addr.add,e];omega
theorem iE (x:Wo) (a b d e:Option Addr) (p q r s:Nat) (w:World) (h1:fA w w a x.ch.cells) (z1:a=none→p=0) (h2:fD w w b x.ch.words) (z2:b=none→q=0) (h3:pF w w d x.hands) (z3:d=none→x.hands.length=0∧r=0) (h4:pG w w e x.deals) (z4:e=none→x.deals.length=0∧s=0) (m1:x.ch.cells.length≤1099511627776) (m2:x.ch.words.length≤1099511627776) (m3:x.hands.length≤1099511627776) (m4:x.deals.length≤1099511627776) :
  Calls prog 71 #[kZ x a b d e p q r s] w fun r w' =>
   (∃ v1 v2 v3 v4,r=.returned (.agg #[x.ch.cap,x.ch.sent,x.ch.got,x.ch.fin,v1,v2,v3,v4,x.now])∧aD w' w v1 x.ch.cells∧aG w' w v2 x.ch.words∧cO w' w v3 x.hands∧dV w' w v4 x.deals)∧Below w w w':=by
 obtain ⟨i5,R,Z,H,F⟩:=info_parts tJ
 obtain ⟨i6,T,a0,I,G⟩:=info_parts nV
 have H1:=aA h1
 have H2:=aA h2
 have H3:=aA h3
 have H4:=aA h4
 have Z1:=aA z1
 have Z2:=aA z2
 have N:=aA z3
 have O:=aA z4
 clear h1 h2 h3 h4 z1 z2 z3 z4
 go_enter func71,ntmps71
 go_wp2_with fail
 go_region_held3 (fun w'=>∀ o,w'.cell? ⟨w,o,none⟩=#[Value.int .i64 x.ch.cap,.int .i64 x.ch.sent,.int .i64 x.ch.got,.int .i64 x.ch.fin,.slice a x.ch.cells p,.slice b x.ch.words q,.slice d x.hands r,.slice e x.deals s,.int .i64 x.now][o]?)
  (first|(intro o;simp [*,go_sem]))
  (first|(go_at_call 123;refine (ry x.ch a b p q _ ((H1.out.below zB).more tS) Z1.out ((H2.out.below zB).more tS) Z2.out m1 m2).mono ?_;rintro _ w4 ⟨⟨v1,v2,rfl,J,K⟩,m⟩;have aa:Below w w w4:=bT zB m;have V:=m.size;(try simp at V);have x4:=fun o=>m.cell (p:=⟨w,o,none⟩) (by ((try simp) <;> (try omega)));have y4:=fun o=>m.cell (p:=⟨w+1,o,none⟩) (by ((try simp) <;> (try omega)));have L:=fun o=>m.frozen (p:=⟨w+1,o,none⟩) (by ((try simp) <;> (try omega)));(try simp [go_sem] at x4);(try simp [go_sem] at y4);(try simp [go_sem] at L);have l4:w<w4.heap.size:=tO;have D:w+1<w4.heap.size:=tO;replace J:=aH (lo':=w+1+1) J (by ((try simp) <;> (try omega)));replace K:=aH (lo':=w+1+1) K (by ((try simp) <;> (try omega)));have a1:=J;have a2:=K;obtain ⟨va,vc,rfl,_⟩:=aD.seg J;obtain ⟨vb,vd,rfl,_⟩:=aG.seg K)|(refine CR (by rfl) _ _ _ (by rfl) (w+1+1) 49 i5 _ 14 112 underlying32 R Z H F rfl (by decide) (.slice (some ⟨_,0,none⟩) 0 0) (by rfl) ?_ d x.hands r (jF x.hands) (by rfl) N.out (jA _) (Seg.news (H3.out.below zB) (jA _) (kg _)) (yV _) (by unfold maxLen;omega) tO (by ((try simp) <;> (try omega))) ?_;(focus ((repeat (first|with_reducible refine World.ownsRow.drew ?_|((with_reducible refine gJ _ _ _ _ _ ?_ ?_) <;> (first|(simp;done)|(simp;omega)|omega))|with_reducible refine World.ownsRow.alloc ?_ _|with_reducible refine own_below ?_ m))));intro v5 w5 y o5 u;have ab:Below w w w5:=iN zB u (by ((try simp) <;> (try omega))) (fun k U=>by have:=(y.lt k U).1;omega);have X:=u.size;(try simp at X);have x5:=fun o=>sW u (b:=w) (by ((try simp) <;> (try omega))) (fun e=>own_ne y tO e.symm) o;have y5:=fun o=>sW u (b:=w+1) (by ((try simp) <;> (try omega))) (fun e=>own_ne y tO e.symm) o;have M:=fun o=>Et u (b:=w+1) (by ((try simp) <;> (try omega))) (fun e=>own_ne y tO e.symm) o;(try simp [go_sem,x4,l4,D] at x5);(try simp [go_sem,y4,l4,D] at y5);(try simp [go_sem,L,l4,D] at M);have l5:w<w5.heap.size:=tO;have E:w+1<w5.heap.size:=tO;have a3:=o5;obtain ⟨a5,a7,rfl,_⟩:=cO.seg o5)|(refine CR (by rfl) _ _ _ (by rfl) (w+1+1) 44 i6 _ 7 56 underlying33 T a0 I G rfl (by decide) (.slice (some ⟨_,0,none⟩) 0 0) (by rfl) ?_ e x.deals s (kJ x.deals) (by rfl) O.out (mK _) (Seg.news (H4.out.below zB) (mK _) (mM _)) (yX _) (by unfold maxLen;omega) tO (by ((try simp) <;> (try omega))) ?_;(focus ((repeat (first|with_reducible refine World.ownsRow.drew ?_|((with_reducible refine gJ _ _ _ _ _ ?_ ?_) <;> (first|(simp;done)|(simp;omega)|omega))|with_reducible refine World.ownsRow.alloc ?_ _|with_reducible refine own_below ?_ m|with_reducible refine ji ?_ y (by decide) u))));intro v6 w6 A o6 z;have ac:Below w w w6:=iN zB z (by ((try simp) <;> (try omega))) (fun k U=>by have:=(A.lt k U).1;omega);have Y:=z.size;(try simp at Y);have x6:=fun o=>sW z (b:=w) (by ((try simp) <;> (try omega))) (fun e=>own_ne A tO e.symm) o;have y6:=fun o=>sW z (b:=w+1) (by ((try simp) <;> (try omega))) (fun e=>own_ne A tO e.symm) o;have a9:=fun o=>Et z (b:=w+1) (by ((try simp) <;> (try omega))) (fun e=>own_ne A tO e.symm) o;(try simp [go_sem,x5,l5,E] at x6);(try simp [go_sem,y5,l5,E] at y6);(try simp [go_sem,M,l5,E] at a9);have l6:w<w6.heap.size:=tO;have ad:w+1<w6.heap.size:=tO;have a4:=o6;obtain ⟨a6,a8,rfl,_⟩:=dV.seg o6))
 all_goals go_wp2
 all_goals (refine bodyPost_ret (v:=.agg #[x.ch.cap,x.ch.sent,x.ch.got,x.ch.fin,.slice va x.ch.cells vc,.slice vb x.ch.words vd,.slice a5 x.hands a7,.slice a6 x.deals a8,x.now]) (by simp [results,results71,go_sem, *]) rfl ⟨⟨_,_,_,_,rfl,aH (lo:=w+1+1) ?_ tO,aH (lo:=w+1+1) ?_ tO,aH (lo:=w+1+1) ?_ tO,aH (lo:=w+1+1) ?_ tO⟩,by exact zB⟩)
 all_goals first|((repeat (first|with_reducible exact J|with_reducible refine World.ownsRow.drew ?_|with_reducible refine World.ownsRow.alloc ?_ _|((with_reducible refine aI ?_ ?_ _);rotate_left;(focus (refine own_ne a1 ?_;(try dsimp only);omega)))|with_reducible refine ji ?_ A (by decide) z|with_reducible refine ji ?_ y (by decide) u));done)|skip
 all_goals first|((repeat (first|with_reducible exact K|with_reducible refine World.ownsRow.drew ?_|with_reducible refine World.ownsRow.alloc ?_ _|((with_reducible refine aI ?_ ?_ _);rotate_left;(focus (refine own_ne a2 ?_;(try dsimp only);omega)))|with_reducible refine ji ?_ A (by decide) z|with_reducible refine ji ?_ y (by decide) u));done)|skip
 all_goals first|((repeat (first|with_reducible exact o5|with_reducible refine World.ownsRow.drew ?_|with_reducible refine World.ownsRow.alloc ?_ _|((with_reducible refine aI ?_ ?_ _);rotate_left;(focus (refine own_ne a3 ?_;(try dsimp only);omega)))|with_reducible refine ji ?_ A (by decide) z|with_reducible refine ji ?_ y (by decide) u));done)|skip
 all_goals first|((repeat (first|with_reducible exact o6|with_reducible refine World.ownsRow.drew ?_|with_reducible refine World.ownsRow.alloc ?_ _|((with_reducible refine aI ?_ ?_ _);rotate_left;(focus (refine own_ne a4 ?_;(try dsimp only);omega)))|with_reducible refine ji ?_ A (by decide) z|with_reducible refine ji ?_ y (by decide) u));done)|skip
end Go.Proofs.YtffhjmepfojhnaaGreat
