/-
  The reference model's looks at a cell of chapters 7 and 8, on hands and channels that are kept whole; lists lie in memory.
-/
import Derived.Test.YtffhjmepfojhnaaGreatS01
import Derived.Test.YtffhjmepfojhnaaGreatS10
import Derived.Test.YtffhjmepfojhnaaGreatS11
import Derived.Test.YtffhjmepfojhnaaGreatS12
set_option maxRecDepth 100000
set_option maxHeartbeats 2000000
set_option linter.unusedSimpArgs false
set_option linter.unusedVariables false
namespace Go.Proofs.YtffhjmepfojhnaaGreat
open _root_.Go.Proofs.Tryz
section
open Go.RowKit
attribute [local simp] aP
attribute [local go_sem ↓] aQ bF aY bY aZ bZ aX bB aN aU
theorem rG (h:Ha) (t:Int) (w:World):Calls prog 206 #[.agg (aB h),.int .i64 t] w fun r w'=>r=.returned (.agg (aB (eQ h t)))∧Below w w w':=by
 go_enter func206,ntmps206
 go_wp2
 refine bodyPost_ret (jy results206 rfl (aJ (eQ h t) (by simp [go_sem] <;> rfl))) rfl ⟨rfl,by exact zB⟩
theorem jW (h:Ha) (w:World):Calls prog 209 #[.agg (aB h)] w fun r w'=>r=.returned (.agg (aB (dP h)))∧Below w w w':=by
 by_cases A:h.nxt=0
 ·rw [show dP h=aV 2 h.out by simp [dP,A]]
  go_enter func209,ntmps209
  go_wp2_with fail;refine aK w zB fun y=>?_;refine (gZ 2 h.out _).mono ?_;rintro _ E ⟨rfl,m⟩;obtain ⟨z,q,u⟩:=BM y m (b:=w);(try simp at q);(try simp [go_sem] at u);replace D:=uV u;clear u m y
  go_wp2
  refine bodyPost_ret (jy results209 rfl (aJ (aV 2 h.out) tZ)) rfl ⟨rfl,by exact zB⟩
 ·by_cases h1:h.nxt=1
  ·rw [show dP h={ h with pos:=23 } by simp [dP,h1]]
   go_enter func209,ntmps209
   go_wp2
   refine bodyPost_ret (jy results209 rfl (aJ { h with pos:=23 } (by simp [go_sem, *] <;> first|rfl|simp [*]))) rfl ⟨rfl,by exact zB⟩
  ·rw [show dP h=anew h by simp [dP,A,h1]]
   have n0:(h.nxt == 0)=false:=by simpa using A
   have n1:(h.nxt == 1)=false:=by simpa using h1
   clear A h1
   go_enter func209,ntmps209
   go_wp2_with fail;refine aK w zB fun y=>?_;refine (lJ h _).mono ?_;rintro _ E ⟨rfl,m⟩;obtain ⟨z,q,u⟩:=BM y m (b:=w);(try simp at q);(try simp [go_sem] at u);replace D:=uV u;clear u m y
   go_wp2
   refine bodyPost_ret (jy results209 rfl (aJ (anew h) tZ)) rfl ⟨rfl,by exact zB⟩
theorem nW {c:Ch} {h:Ha} {x:C3} (q:cellAt c h.cell=x) (n:Int) (m:x.s=n) :
  iY c h=if n == 0 then ({ eD h x with pos:=11 },true) else if n == 1 then ({ eD h x with pos:=11 },true) else if n == 2 then ({ eD h x with pos:=12 },true) else if n == 3 then ({ eD h x with pos:=12 },true) else if n == 9 then (anew (eD h x),true) else (eD h x,false):=by
 subst m;subst q;rfl
theorem Fj (c:Ch) (h:Ha) (a b:Option Addr) (p q:Nat) (w:World) (h1:fA w w a c.cells) (T:0≤h.cell) (U:h.cell<c.cells.length) :
  Calls prog 204 #[.agg (aF c (.slice a c.cells p) (.slice b c.words q)),.agg (aB h)] w fun r w'=>r=.returned (.tuple #[.agg (aB (iY c h).1),.bool (iY c h).2])∧Below w w w':=by
 obtain ⟨i,u⟩:∃ i:Nat,h.cell=(i:Int):=⟨h.cell.toNat,by omega⟩
 have V:i<c.cells.length:=by omega
 obtain ⟨y,bo,rfl,hb,m⟩:∃ D o,a=some ⟨D,o,none⟩∧D<w.heap.size∧Hid (∀ j,j<3→w.cell? ⟨D,o+i*3+j,none⟩=some ((c.cells.getD i ⟨0,0,0⟩).val j)):=by
  rcases h1 with h0|⟨D,o',e,h1,M⟩
  ·omega
  ·exact ⟨D,o',e,h1,fun j Z=>by simpa [iq] using M i j V Z⟩
 clear h1
 have c0:=m.out 0 tO
 have L:=m.out 1 tO
 have c2:=m.out 2 tO
 have A:Hid (cellAt c h.cell=c.cells.getD i ⟨0,0,0⟩):=by simp [cellAt,Hid,u]
 clear m
 generalize c.cells.getD i ⟨0,0,0⟩=x at *
 obtain ⟨s,e,t⟩:=x
 simp only [C3.val,Nat.add_zero] at c0 L c2
 have X:(0:Int)≤(i:Int):=by omega
 have Y:(i:Int)<(c.cells.length:Int):=by omega
 have N:y<w.heap.size+1:=by omega
 have O:y<w.heap.size+1+1:=by omega
 have R:y<w.heap.size+1+1+1:=by omega
 have a0:y≠w.heap.size:=by omega
 have I:y≠w.heap.size+1:=by omega
 have J:y≠w.heap.size+1+1:=by omega
 have K:y≠w.heap.size+1+1+1:=by omega
 by_cases H:s=0∨s=1∨s=2∨s=3∨s=9
 ·rcases H with rfl|rfl|rfl|rfl|rfl
  ·rw [show iY c h=({ eD h ⟨0,e,t⟩ with pos:=11 },true) from nW A.out 0 rfl]
   go_enter func204,ntmps204
   go_wp2
   refine bodyPost_ret (j5 results204 rfl (aJ ({ eD h ⟨0,e,t⟩ with pos:=11 }) (by simp [go_sem, *] <;> first|rfl|simp [eD,anew,u]))) rfl ⟨rfl,by exact zB⟩
  ·rw [show iY c h=({ eD h ⟨1,e,t⟩ with pos:=11 },true) from nW A.out 1 rfl]
   go_enter func204,ntmps204
   go_wp2
   refine bodyPost_ret (j5 results204 rfl (aJ ({ eD h ⟨1,e,t⟩ with pos:=11 }) (by simp [go_sem, *] <;> first|rfl|simp [eD,anew,u]))) rfl ⟨rfl,by exact zB⟩
  ·rw [show iY c h=({ eD h ⟨2,e,t⟩ with pos:=12 },true) from nW A.out 2 rfl]
   go_enter func204,ntmps204
   go_wp2
   refine bodyPost_ret (j5 results204 rfl (aJ ({ eD h ⟨2,e,t⟩ with pos:=12 }) (by simp [go_sem, *] <;> first|rfl|simp [eD,anew,u]))) rfl ⟨rfl,by exact zB⟩
  ·rw [show iY c h=({ eD h ⟨3,e,t⟩ with pos:=12 },true) from nW A.out 3 rfl]
   go_enter func204,ntmps204
   go_wp2
   refine bodyPost_ret (j5 results204 rfl (aJ ({ eD h ⟨3,e,t⟩ with pos:=12 }) (by simp [go_sem, *] <;> first|rfl|simp [eD,anew,u]))) rfl ⟨rfl,by exact zB⟩
  ·rw [show iY c h=(anew (eD h ⟨9,e,t⟩),true) from nW A.out 9 rfl]
   go_enter func204,ntmps204
   go_wp2_with fail;refine aK w zB fun y=>?_;refine (lJ _ _).mono ?_;rintro _ w1 ⟨rfl,z⟩;obtain ⟨G,E,F⟩:=uW y z (b:=w);(try simp at E);(try simp [go_sem] at F);replace bX:=ql F;clear F z y
   go_wp2
   refine bodyPost_ret (j5 results204 rfl (aJ (anew (eD h ⟨9,e,t⟩)) (by simp [go_sem, *] <;> first|rfl|simp [eD,anew,u]))) rfl ⟨rfl,by exact zB⟩
 ·have n0:(s == 0)=false:=by simp;omega
  have n1:(s == 1)=false:=by simp;omega
  have n2:(s == 2)=false:=by simp;omega
  have n3:(s == 3)=false:=by simp;omega
  have n9:(s == 9)=false:=by simp;omega
  rw [show iY c h=(eD h ⟨s,e,t⟩,false) from by rw [nW A.out s rfl,n0,n1,n2,n3,n9];rfl]
  clear H
  go_enter func204,ntmps204
  go_wp2
  refine bodyPost_ret (j5 results204 rfl (aJ (eD h ⟨s,e,t⟩) (by simp [go_sem, *] <;> first|rfl|simp [eD,anew,u]))) rfl ⟨rfl,by exact zB⟩
theorem sj {c:Ch} {h:Ha} {x:C3} (q:cellAt c h.grow=x) (n:Int) (m:x.s=n) :
  mh c h=if n == 0 then { cZ h x with pos:=19 } else if n == 3 then { cZ h x with pos:=19 } else if n == 9 then { cZ h x with pos:=16 } else dP (cZ h x):=by
 subst m;subst q;rfl
theorem Fp (c:Ch) (h:Ha) (a b:Option Addr) (p q:Nat) (w:World) (h1:fA w w a c.cells) (R:0≤h.grow) (T:h.grow<c.cells.length) :
  Calls prog 210 #[.agg (aF c (.slice a c.cells p) (.slice b c.words q)),.agg (aB h)] w fun r w'=>r=.returned (.agg (aB (mh c h)))∧Below w w w':=by
 obtain ⟨i,u⟩:∃ i:Nat,h.grow=(i:Int):=⟨h.grow.toNat,by omega⟩
 have U:i<c.cells.length:=by omega
 obtain ⟨y,bo,rfl,hb,m⟩:∃ A o,a=some ⟨A,o,none⟩∧A<w.heap.size∧Hid (∀ j,j<3→w.cell? ⟨A,o+i*3+j,none⟩=some ((c.cells.getD i ⟨0,0,0⟩).val j)):=by
  rcases h1 with h0|⟨A,o',e,h1,L⟩
  ·omega
  ·exact ⟨A,o',e,h1,fun j Y=>by simpa [iq] using L i j U Y⟩
 clear h1
 have c0:=m.out 0 tO
 have c2:=m.out 2 tO
 have E:Hid (cellAt c h.grow=c.cells.getD i ⟨0,0,0⟩):=by simp [cellAt,Hid,u]
 clear m
 generalize c.cells.getD i ⟨0,0,0⟩=x at *
 obtain ⟨s,e,t⟩:=x
 simp only [C3.val,Nat.add_zero] at c0 c2
 have V:(0:Int)≤(i:Int):=by omega
 have X:(i:Int)<(c.cells.length:Int):=by omega
 have M:y<w.heap.size+1:=by omega
 have N:y<w.heap.size+1+1:=by omega
 have O:y<w.heap.size+1+1+1:=by omega
 have Z:y≠w.heap.size:=by omega
 have I:y≠w.heap.size+1:=by omega
 have J:y≠w.heap.size+1+1:=by omega
 have K:y≠w.heap.size+1+1+1:=by omega
 by_cases H:s=0∨s=3∨s=9
 ·rcases H with rfl|rfl|rfl
  ·rw [show mh c h={ cZ h ⟨0,e,t⟩ with pos:=19 } from sj E.out 0 rfl]
   go_enter func210,ntmps210
   go_wp2
   refine bodyPost_ret (jy results210 rfl (aJ ({ cZ h ⟨0,e,t⟩ with pos:=19 }) (by simp [go_sem, *] <;> first|rfl|simp [cZ,anew,u]))) rfl ⟨rfl,by exact zB⟩
  ·rw [show mh c h={ cZ h ⟨3,e,t⟩ with pos:=19 } from sj E.out 3 rfl]
   go_enter func210,ntmps210
   go_wp2
   refine bodyPost_ret (jy results210 rfl (aJ ({ cZ h ⟨3,e,t⟩ with pos:=19 }) (by simp [go_sem, *] <;> first|rfl|simp [cZ,anew,u]))) rfl ⟨rfl,by exact zB⟩
  ·rw [show mh c h={ cZ h ⟨9,e,t⟩ with pos:=16 } from sj E.out 9 rfl]
   go_enter func210,ntmps210
   go_wp2
   refine bodyPost_ret (jy results210 rfl (aJ ({ cZ h ⟨9,e,t⟩ with pos:=16 }) (by simp [go_sem, *] <;> first|rfl|simp [cZ,anew,u]))) rfl ⟨rfl,by exact zB⟩
 ·have n0:(s == 0)=false:=by simp;omega
  have n3:(s == 3)=false:=by simp;omega
  have n9:(s == 9)=false:=by simp;omega
  rw [show mh c h=dP (cZ h ⟨s,e,t⟩) from by rw [sj E.out s rfl,n0,n3,n9];rfl]
  clear H
  go_enter func210,ntmps210
  go_wp2_with fail;refine aK w zB fun y=>?_;refine (jW _ _).mono ?_;rintro _ w1 ⟨rfl,z⟩;obtain ⟨G,D,F⟩:=uW y z (b:=w);(try simp at D);(try simp [go_sem] at F);replace bX:=ql F;clear F z y
  go_wp2
  refine bodyPost_ret (jy results210 rfl (aJ (dP (cZ h ⟨s,e,t⟩)) (by simp [go_sem, *] <;> first|rfl|simp [cZ,anew,u]))) rfl ⟨rfl,by exact zB⟩
end
section
open Go.RowKit
theorem tK {P:Program} {L:Array Oper} {o:Oper} {a:Act} {K:Act→World→Prop} {Q:Exit→Act→World→Prop} {E:Prop} {w:World} (T:o.guard=none) (s x:Operand) (t:TypeId)
  (ho:o.op=.call { callee:=.builtin .append,args:=#[s,x],argTypes:=#[t,t] })
  (y:Nat) (e:TypeId) (i:TypeInfo) (z:Value) (q A:Nat) (ht:P.underlying t=some (.slice e)) (Z:P.info? e=some i) (hz:i.zero=some z)
  (I:i.size=q) (R:i.bytes=A) (Y:z.cells.size=q) (V:0<q)
  (v:Value) (n:Nat) (N:List Value) (hs:a.eval s=v) (D:w.ownsRow y e q v n N)
  (b:Option Addr) (m c:Nat) (r:List Value) (hx:a.eval x=.slice b m c) (X:b=none→m=0∧c=0) (hl:r.length=m*q) (H:∀ J,b=some J→∀ j u,r[j]?=some u→w.cell? (J.add j)=some u) (h1:∀ u ∈ r,u.oneCell'=true)
  (O:n+m≤maxLen) (F:(n+m)*A≤140737488355328) (G:y≤w.heap.size)
  (h:∀ M w',w'.ownsRow y e q M (n+m) (N ++ r)→w.grownBy w' v.ownBlock→K (a.put o.dst M) w') :
  if Region.wanted o (yielded L a.tmps)=true then Oper.wp P o a w K Q else E:=by
 have hw:Region.wanted o (yielded L a.tmps)=true:=by simp [Region.wanted,T]
 rw [if_pos hw]
 rcases b with _|J
 ·obtain ⟨rfl,rfl⟩:=X rfl
  have U:=run_append_owned_none (P:=P) (w:=w) y t o.type e i q ht Z v n N D
  obtain rfl:r=[]:=List.eq_nil_of_length_eq_zero (by simpa using hl)
  unfold Oper.wp execOp
  simp only [ho,resolve,invoke,builtin,Sem.run_bind,Sem.run_pure,Result.andThen_ok,List.map_toArray,List.map_cons,List.map_nil,hs,hx,U]
  exact h v w (by simpa using D) (Hy _ _)
 ·obtain ⟨M,w',U,r1,r2,_⟩:=run_append_own (P:=P) w y t o.type e i z q A ht Z hz I R Y V v n N D J m c r hl (H J rfl) h1 O F G
  unfold Oper.wp execOp
  simp only [ho,resolve,invoke,builtin,Sem.run_bind,Sem.run_pure,Result.andThen_ok,List.map_toArray,List.map_cons,List.map_nil,hs,hx,U]
  exact h M w' r1 r2
end
section
structure CB (c:Ch):Prop where
  cap:0≤c.cap∧c.cap≤4
  sent:0≤c.sent∧c.sent≤40
  got:0≤c.got∧c.got≤40
  fin:0≤c.fin∧c.fin≤40
  len:c.cells.length=40
  wlen:c.words.length≤80
  cells:∀ x,x ∈ c.cells→fI c.words.length x=true
  words:∀ x,x ∈ c.words→0≤x∧x≤2
theorem LF {c:Ch}:aW c=true↔CB c:=by
  constructor
  · intro h
    simp only [aW,fO,Bool.and_eq_true,iP,decide_eq_true_eq,List.all_eq_true] at h
    obtain ⟨⟨a,b,d,e,f,g⟩,h1,m⟩:=h
    exact ⟨a,b,d,e,f,g,h1,m⟩
  · rintro ⟨a,b,d,e,f,g,h1,m⟩
    simp only [aW,fO,Bool.and_eq_true,iP,decide_eq_true_eq,List.all_eq_true]
    exact ⟨⟨a,b,d,e,f,g⟩,h1,m⟩
theorem wz {n:Nat} {x:C3}:fI n x=true↔(0≤x.s∧x.s≤10)∧(0≤x.e∧x.e≤999)∧(0≤x.t∧x.t≤80)∧x.t≤n:=by
  simp only [fI,P7,ku,Bool.and_eq_true,iP,decide_eq_true_eq]
  constructor
  · rintro ⟨⟨⟨a,b⟩,d⟩,e⟩;exact ⟨a,b,d,e⟩
  · rintro ⟨a,b,d,e⟩;exact ⟨⟨⟨a,b⟩,d⟩,e⟩
theorem CB.at {c:Ch} (q:CB c) (i:Int):fI c.words (cellAt c i)=true:=by
  unfold cellAt
  rw [List.getD_eq_getElem?_getD]
  by_cases h:i.toNat<c.cells.length
  · rw [List.getElem?_eq_getElem h]
    exact q.cells _ (List.getElem_mem h)
  · rw [List.getElem?_eq_none tO]
    rw [wz]
    simp
theorem CB.set {c:Ch} (q:CB c) (i:Int) {x:C3} (h:fI c.words x=true):CB (setAt c i x):=by
  refine ⟨q.cap,q.sent,q.got,q.fin,?_,q.wlen,?_,q.words⟩
  · show (c.cells.set _ _).length=40
    rw [List.length_set];exact q.len
  · intro y m
    rcases List.mem_or_eq_of_mem_set m with h1|h1
    · exact q.cells y h1
    · rw [h1];exact h
theorem CB.state {c:Ch} (q:CB c) (i m:Int) (h:0≤m∧m≤10):CB (cB c i m):=by
  refine q.set i ?_
  have:=wz.1 (q.at i)
  exact wz.2 ⟨h,this.2⟩
structure HB (h:Ha):Prop where
  cell:0≤h.cell∧h.cell≤39
  grow:0≤h.grow∧h.grow≤39
  seen:0≤h.seen∧h.seen≤10
  wait:0≤h.wait∧h.wait≤80
  mine:0≤h.mine∧h.mine≤80
  fin:0≤h.fin∧h.fin≤40
  come:0≤h.come∧h.come≤40
  nxt:0≤h.nxt∧h.nxt≤2
  beg:0≤h.beg∧h.beg≤20000
  reply:0≤h.reply∧h.reply≤4
  out:0≤h.out∧h.out≤999
theorem hb_iff {h:Ha}:bM h=true↔oV h=true∧HB h:=by
  constructor
  · intro k
    simp only [bM,qy,uj,Bool.and_eq_true,iP] at k
    obtain ⟨a,⟨b,d,e,f,g⟩,h1,m,q,r,u,h6⟩:=k
    exact ⟨a,b,d,e,f,g,h1,m,q,r,u,h6⟩
  · rintro ⟨a,b,d,e,f,g,h1,m,q,r,u,h6⟩
    simp only [bM,qy,uj,Bool.and_eq_true,iP]
    exact ⟨a,⟨b,d,e,f,g⟩,h1,m,q,r,u,h6⟩
theorem Jh {h:Ha} (m:bM h=true) (p:h.pos≠0):eB h.code h.elem=true:=by
  have:=(hb_iff.1 m).1
  unfold oV at this
  rw [if_neg (by simpa using p)] at this
  simp only [Bool.and_eq_true] at this
  exact this.2
theorem H6 {h m:Ha} (q:bM h=true) (p:h.pos≠0) (r:1≤m.pos∧m.pos≤25) (k:m.code=h.code) (e:m.elem=h.elem) (B:HB m):bM m=true:=by
  refine hb_iff.2 ⟨?_,B⟩
  unfold oV
  rw [if_neg (by have:m.pos≠0:=by omega
                 simpa using this),k,e,Jh q p]
  simp [dA]
  omega
end
end Go.Proofs.YtffhjmepfojhnaaGreat
