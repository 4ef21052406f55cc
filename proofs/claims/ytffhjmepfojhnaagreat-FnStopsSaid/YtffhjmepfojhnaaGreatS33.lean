/-
  The program's touch of sending, every case, and its step, on hands and channels that are kept whole; lists lie in memory and hold at most as much as memory can hold.
-/
import Derived.Test.YtffhjmepfojhnaaGreatS01
import Derived.Test.YtffhjmepfojhnaaGreatS27
import Derived.Test.YtffhjmepfojhnaaGreatS26
import Derived.Laws.EntriesVeiled
import Derived.Test.YtffhjmepfojhnaaGreatS21
import Derived.Test.YtffhjmepfojhnaaGreatS04
import Derived.Deep.DeepCutAuto
import Derived.BigRegion
import Derived.Deep.RegionHeld3
import Derived.WalkLawsBesides
import Derived.Recover
import Derived.Test.YtffhjmepfojhnaaGreatS20
import Derived.Test.YtffhjmepfojhnaaGreatS03
set_option maxRecDepth 100000
set_option maxHeartbeats 8000000
set_option linter.unusedSimpArgs false
set_option linter.unusedVariables false
namespace Go.Proofs.YtffhjmepfojhnaaGreat
open _root_.Go.Proofs.Tryz
section
open Go.RowKit
attribute [local simp] aP
attribute [local go_sem ↓] aQ bF aY bY aZ bZ aX bB aN aU
def Ps:Array Value:=#[.nilFunc,.func (.func 239) #[] #[],.func (.func 240) #[] #[],.func (.func 241) #[] #[],.func (.func 242) #[] #[],.func (.func 243) #[] #[],.func (.func 244) #[] #[],.func (.func 245) #[] #[],.func (.func 246) #[] #[]]
theorem uM (w:World):Calls prog 238 #[] w fun r w'=>r=.returned (.agg Ps)∧Below w w w':=by
 go_enter func238,ntmps238
 go_wp2
 refine bodyPost_ret (v:=.agg Ps) (by simp [results,results238,go_sem,Ps, *]) rfl ⟨rfl,by exact zB⟩
theorem Ir (F:Nat) (w:World):(binOp .eql 240 (.func (.func F) #[] #[]) .nilFunc).run prog w=.ok (.bool false) w:=by
 have u:=underlying240
 simp only [binOp,Op.equal,Op.maxDepth]
 rw [show (10000:Nat)=9999+1 from rfl]
 generalize (9999:Nat)=d
 rw [Op.equalIn]
 simp [Sem.run_bind,run_underlying u,Result.andThen]
attribute [local go_sem ↓] Ir
theorem iD (F k:Nat) (x:St) (c:Ch) (h:Ha) (v1 v2:Value) (lo:Nat) (w:World) (h1:aD w lo v1 c.cells) (h2:aG w lo v2 c.words) (ag:lo≤w.heap.size) (hk:h.code=1) (a4:h.pos=(k:Int)) (am:k<9) (a3:Ps[k]?=some (.func (.func F) #[] #[])) (eg:∀ args w,(callFunc F args).run prog w=.ok (.enter F args) w) (HF:∀ (v1 v2:Value) (lo:Nat) (W:World),aD W lo v1 c.cells→aG W lo v2 c.words→lo≤W.heap.size→Calls prog F #[.agg (aF c v1 v2),.agg (aB h)] W fun r w'=>dJ W w' lo v1 v2 x r) :
  dG 237 c h v1 v2 lo w x:=by
 obtain ⟨a1,q1,a2,q2,rfl,rfl,O1,O2,b1,b2⟩:=rR h1 h2
 clear h1 h2
 have aj:(h.code != 1)=false:=by simp [hk]
 have ai:(0:Int)≤(k:Int):=by omega
 have al:(k:Int)<9:=by omega
 have ak:¬ (9:Int)≤(k:Int):=by omega
 clear hk
 have ad:=aA HF
 have TT:=aA fun w=>uM w
 clear HF
 have o1:=O1.out
 have o2:=O2.out
 go_enter func237,ntmps237
 go_wp2_with fail;refine aK w zB fun bb=>?_;refine (TT.out _).mono ?_;rintro _ Z ⟨rfl,J⟩;have aa:Below w w Z:=bT bb J;have ab:=J.size;(try simp at ab);have zz:=q4 J (b:=w);(try simp [go_sem] at zz);(try clear q M H A);(try clear u a0 U Y);(try clear y L T X);(try clear R a9 a6 a8);obtain ⟨q,u,y,R⟩:=zz;obtain ⟨M,H,A⟩:=bO q;obtain ⟨a0,U,Y⟩:=bO u;obtain ⟨L,T,X⟩:=bO y;obtain ⟨a9,a6,a8⟩:=bO R;have I:Below w w Z:=aa;clear J bb
 have p1:=own_below o1 I
 have p2:=own_below o2 I
 unfold Ps
 go_upto_region 2 with fail
 generalize a7:World.alloc Z _=w2
 have zt:hp w2 Z=some (.cells Ps 241):=by rw [← a7];simp [go_sem,Ps]
 have hE:Below Z Z w2:=by rw [← a7];exact aS _ _
 clear a7
 have ae:jI (Value.slice a1 c.cells q1).ownBlock (Value.slice a2 c.words q2).ownBlock w w2:=dR (bT I hE)
 have af:lo≤w2.heap.size:=Nat.le_trans ag (bT I hE).size
 have ao:w+1+1+1<Z.heap.size:=A
 replace p1:=own_below p1 hE
 replace p2:=own_below p2 hE
 replace R:=eP R hE
 replace y:=eP y hE
 replace u:=eP u hE
 replace q:=eP q hE
 clear a9 a6 a8 L T X a0 U Y M H A o1 o2
 obtain ⟨ac,ah,ap⟩:=bO zt
 obtain ⟨a9,a6,a8⟩:=bO R
 obtain ⟨L,T,X⟩:=bO y
 have hq:=(ac k).trans a3
 clear ac
 have an:w2.cell? ⟨w+1,0,none⟩=some (.int .i64 k):=(L 0).trans (by rw [zU,a4])
 go_upto_region 4 with fail
 refine iT [[],[0],[0,1],[0,1,2],[],[],[0,1,2,3,4,5],[0,1,2,3,4,5,6],[0,1,2,3,4,5,6],[0,1,2,3,4,5,6],qB [],[0,1,2,3,4,5,6,8],[0,1,2,3,4,5,6,9]] [29,30,31,32,33,34,35,36,37,38,6] (fun l s G=>(jI (Value.slice a1 c.cells q1).ownBlock (Value.slice a2 c.words q2).ownBlock w G)∧(hp G w=some (.cells (aF c (Value.slice a1 c.cells q1) (Value.slice a2 c.words q2)) 31))∧(hp G (w+1)=some (.cells (aB h) 49))∧(hp G Z=some (.cells Ps 241))∧(hp G (w+1+1)=some (.cells (cond (l 10) (aF x.1 (s 1003) (s 1004)) (aF Ch.zero (.slice none 0 0) (.slice none 0 0))) 31))∧(hp G (w+1+1+1)=some (.cells (cond (l 11) (aB x.2.1) (aB Ha.zero)) 49))∧(l 6=false→aD G lo (Value.slice a1 c.cells q1) c.cells)∧(l 6=false→aG G lo (Value.slice a2 c.words q2) c.words)∧(lo≤G.heap.size)∧(l 0=true→s 29=.pointer (some ⟨w+1,0,none⟩))∧(l 1=true→s 30=.int .i64 k)∧(l 2=true→s 31=.pointer (some ⟨Z,k,none⟩))∧(l 3=true→s 32=.func (.func F) #[] #[])∧(l 4=true→s 33=.agg (aF c (Value.slice a1 c.cells q1) (Value.slice a2 c.words q2)))∧(l 5=true→s 34=.agg (aB h))∧(l 6=true→s 35=.tuple #[.agg (aF x.1 (s 1003) (s 1004)),.agg (aB x.2.1),.bool x.2.2]∧aD G lo (s 1003) x.1.cells∧aG G lo (s 1004) x.1.words∧fC w (Value.slice a1 c.cells q1) (s 1003)∧fC w (Value.slice a2 c.words q2) (s 1004))∧(l 7=true→s 36=.agg (aF x.1 (s 1003) (s 1004)))∧(l 8=true→s 37=.agg (aB x.2.1))∧(l 9=true→s 38=.bool x.2.2)∧(l 12=true→s 6=.bool x.2.2)) (fun s=>⟨oD ae,R,y,zt,u,q,fun _=>qh p1,fun _=>qh p2,af,nB,nB,nB,nB,nB,nB,nB,nB,nB,nB,nB⟩) ?_ ?_
 refine ⟨?_,?_,?_,?_,?_,?_,?_,?_,?_,?_,?_,?_,?_,trivial⟩;iterate 13 (intro l s G hl D hn m K O;rotate_left)
 ·intro l s G E m
  have hO:=m.1
  have z1:=m.2.2.2.2.1
  have z2:=(jC m).2.1
  rw [E 10 rfl] at z1
  rw [E 11 rfl] at z2
  dsimp only [cond] at z1 z2
  obtain ⟨_,X1,X2,F1,F2⟩:=((jC (jD m)).2.2.2.1 (E 6 rfl))
  have ec:=((jE m).2.2.2 (E 12 rfl))
  simp only [ec]
  clear ec m E
  go_wp2
  exact bodyPost_ret (jZ results237 rfl (aO x.1 _ _ z1) rfl (aJ x.2.1 z2)) rfl ⟨⟨_,_,rfl,X1,X2,F1,F2⟩,hO⟩
 ·go_simp
  refine O.out (upd s 29 (.pointer (some ⟨w+1,0,none⟩))) _ _ (by simp [aC] <;> rfl) (kD (kA (kX (fun _=>rfl) id)) m.out)
 ·have e0:=((jD m.out).2.1 (D 0 rfl))
  have z:G.cell? ⟨w+1,0,none⟩=some (.int .i64 k):=((bO m.out.2.2.1).1 0).trans (by rw [zU,a4])
  go_simp
  refine O.out (upd s 30 (.int .i64 k)) _ _ (by simp [aC,e0] <;> rfl) (kD (kB (kX (fun _=>rfl) id)) m.out)
 ·have e1:=((jD m.out).2.2.1 (D 1 rfl))
  go_simp
  refine O.out (upd s 31 (.pointer (some ⟨Z,k,none⟩))) _ _ (by simp [aC,e1] <;> rfl) (kD (kB (kA (kX (fun _=>rfl) id))) m.out)
 ·have e2:=((jD m.out).2.2.2.1 (D 2 rfl))
  have z:G.cell? ⟨Z,k,none⟩=some (.func (.func F) #[] #[]):=((bO m.out.2.2.2.1).1 k).trans a3
  go_simp
  refine O.out (upd s 32 (.func (.func F) #[] #[])) _ _ (by simp [aC,e2] <;> rfl) (kD (kC (kX (fun _=>rfl) id)) m.out)
 ·have zc:=m.out.2.1
  go_simp
  refine O.out (upd s 33 (.agg (aF c (Value.slice a1 c.cells q1) (Value.slice a2 c.words q2)))) _ _ (by simp [aC] <;> rfl) (kD (kC (kA (kX (fun _=>rfl) id))) m.out)
 ·have zh:=m.out.2.2.1
  go_simp
  refine O.out (upd s 34 (.agg (aB h))) _ _ (by simp [aC] <;> rfl) (kD (kC (kB (kX (fun _=>rfl) id))) m.out)
 ·have e3:=((jC (jD m.out)).1 (D 3 rfl))
  have e4:=((jC (jD m.out)).2.1 (D 4 rfl))
  have e5:=((jC (jD m.out)).2.2.1 (D 5 rfl))
  have o1:=(jC m.out).2.2.1 hl
  have o2:=(jC m.out).2.2.2.1 hl
  go_simp
  refine (ad.out _ _ lo _ o1 o2 (jD m.out).1).mono ?_
  rintro _ wy ⟨⟨y1,y2,rfl,X1,X2,F1,F2⟩,hO⟩
  refine O.out (upd (upd (upd s 1003 (y1)) 1004 (y2)) 35 (.tuple #[.agg (aF x.1 y1 y2),.agg (aB x.2.1),.bool x.2.2])) _ _ (by simp [aC,e3,e4,e5] <;> rfl) (kX (gU m.out.1 hO) (kX (gW m.out.2.1 hO o1 o2 (by decide) (by decide)) (kX (gW m.out.2.2.1 hO o1 o2 (by decide) (by decide)) (kX (gW m.out.2.2.2.1 hO o1 o2 (by decide) (by decide)) (kX (by (have ee:l 10=false:=hn 10 rfl);(have F:=m.out.2.2.2.2.1);rw [ee] at F;rw [show upd l 6 true 10=false from ee];exact gW F hO o1 o2 (by decide) (by decide)) (kX (by (have ee:l 11=false:=hn 11 rfl);(have F:=(jC m.out).2.1);rw [ee] at F;rw [show upd l 6 true 11=false from ee];exact gW F hO o1 o2 (by decide) (by decide)) (kX (fun V=>absurd V (by rw [show upd l 6 true 6=true from rfl];decide)) (kX (fun V=>absurd V (by rw [show upd l 6 true 6=true from rfl];decide)) (kX (Nat.le_trans (jD m.out).1 hO.2.2.2.1) (kC (kB (kX (fun _=>⟨rfl,X1,X2,fun j hj=>(F1 j hj).imp id (fun h=>Nat.le_trans m.out.1.2.2.2.1 h),fun j hj=>(F2 j hj).imp id (fun h=>Nat.le_trans m.out.1.2.2.2.1 h)⟩) (kX (nU (hn 7 rfl)) (kX (nU (hn 8 rfl)) (kX (nU (hn 9 rfl)) (fun _=>nU (hn 12 rfl)))))))))))))))) m.out)
 ·have N:=((jC (jD m.out)).2.2.2.1 (D 6 rfl)).1
  go_simp
  refine O.out (upd s 36 (.agg (aF x.1 (s 1003) (s 1004)))) _ _ (by simp [aC,N] <;> rfl) (kE (kX (fun _=>rfl) id) m.out)
 ·have N:=((jC (jD m.out)).2.2.2.1 (D 6 rfl)).1
  go_simp
  refine O.out (upd s 37 (.agg (aB x.2.1))) _ _ (by simp [aC,N] <;> rfl) (kE (kA (kX (fun _=>rfl) id)) m.out)
 ·have N:=((jC (jD m.out)).2.2.2.1 (D 6 rfl)).1
  go_simp
  refine O.out (upd s 38 (.bool x.2.2)) _ _ (by simp [aC,N] <;> rfl) (kE (kB (kX (fun _=>rfl) id)) m.out)
 ·have e7:=((jE m.out).1 (D 7 rfl))
  have N:=((jC (jD m.out)).2.2.2.1 (D 6 rfl))
  have X1:=N.2.1
  have X2:=N.2.2.1
  clear N
  have zr:=m.out.2.2.2.2.1
  rw [hl] at zr
  dsimp only [cond] at zr
  obtain ⟨xa,xp,ea,_⟩:=X1.seg
  obtain ⟨xb,xq,a5,_⟩:=X2.seg
  rw [ea,a5] at e7
  have zn:hp (dF G (w+1+1) (aF x.1 (.slice xa x.1.cells xp) (.slice xb x.1.words xq))) (w+1+1)=some (.cells (aF x.1 (s 1003) (s 1004)) 31):=by rw [ea,a5];exact ib zr
  go_simp
  refine O.out (s) _ _ (by simp [aC,e7,ea,a5] <;> rfl) (kX (oX m.out.1 tO) (kX ((aR tO).trans m.out.2.1) (kX ((aR tO).trans m.out.2.2.1) (kX ((aR tO).trans m.out.2.2.2.1) (kX (zn) (kX ((aR tO).trans (jC m.out).2.1) (kX (fun V=>absurd ((D 6 rfl).symm.trans V) (by decide)) (kX (fun V=>absurd ((D 6 rfl).symm.trans V) (by decide)) (kX (Nat.le_trans (jD m.out).1 (Nat.le_of_eq aP.symm)) (kC (kB (kX (fun h=>(let ⟨e,X1,X2,F1,F2⟩:=(jC (jD m.out)).2.2.2.1 h;⟨e,dI X1 zr (by decide),dI X2 zr (by decide),F1,F2⟩)) id))))))))))) m.out)
 ·have e8:=((jE m.out).2.1 (D 8 rfl))
  have N:=((jC (jD m.out)).2.2.2.1 (D 6 rfl))
  have X1:=N.2.1
  have X2:=N.2.2.1
  clear N
  have zr:=(jC m.out).2.1
  rw [hl] at zr
  dsimp only [cond] at zr
  have zn:hp (dF G (w+1+1+1) (aB x.2.1)) (w+1+1+1)=some (.cells (aB x.2.1) 49):=by exact ib zr
  go_simp
  refine O.out (s) _ _ (by simp [aC,e8] <;> rfl) (kX (oX m.out.1 tO) (kX ((aR tO).trans m.out.2.1) (kX ((aR tO).trans m.out.2.2.1) (kX ((aR tO).trans m.out.2.2.2.1) (kX ((aR tO).trans m.out.2.2.2.2.1) (kX (zn) (kX (fun V=>absurd ((D 6 rfl).symm.trans V) (by decide)) (kX (fun V=>absurd ((D 6 rfl).symm.trans V) (by decide)) (kX (Nat.le_trans (jD m.out).1 (Nat.le_of_eq aP.symm)) (kC (kB (kX (fun h=>(let ⟨e,X1,X2,F1,F2⟩:=(jC (jD m.out)).2.2.2.1 h;⟨e,dI X1 zr (by decide),dI X2 zr (by decide),F1,F2⟩)) id))))))))))) m.out)
 ·have e9:=((jE m.out).2.2.1 (D 9 rfl))
  go_simp
  refine O.out (upd s 6 (.bool x.2.2)) _ _ (by simp [aC,e9] <;> rfl) (kE (kB (kA (fun _=>fun _=>rfl))) m.out)
end
section
open Go.RowKit
attribute [local simp] aP
attribute [local go_sem ↓] aQ bF aY bY aZ bZ aX bB aN aU
theorem DU (c:Ch) (h:Ha) (m q:Value) (lo:Nat) (w:World) (h1:aD w lo m c.cells) (r:aG w lo q c.words) (u:aW c=true) (y:iZ c h.mine=-1) :
  Calls prog 275 #[.agg (aF c m q),.agg (aB h)] w fun e G=>∃ T s,e=.panicked [{ v:=.iface T s,recovered:=false }]∧Below w w G:=by
 have F:=aA fun W a b=>F5 c h m q lo W a b u y
 clear y u
 obtain ⟨J,N,K,O,rfl,rfl,D,E,L,M⟩:=rR h1 r
 clear h1 r
 have z:=D.out
 have A:=E.out
 go_enter func275,ntmps275
 go_wp2_with fail
 refine aK w zB fun H=>?_
 refine (F.out _ (zO z z) (zO A A)).mono ?_
 rintro _ R ⟨T,s,rfl,I⟩
 go_wp2
 exact ⟨rfl,T,s,rfl,bT H I⟩
theorem Bd (c:Ch) (h:Ha) (J K:Value) (lo:Nat) (w:World) (h1:aD w lo J c.cells) (T:aG w lo K c.words) (V:aW c=true) (x:Int) (X:iZ c h.mine=x) (hp:¬ x<0) (hq:(h.pos == 23)=true) :
  dG 275 c h J K lo w ((c,lC h x,x != 0)):=by
 have OW:=aA fun W a b=>mq c h J K lo W a b V x X hp
 clear X hp V
 have L:=aA fun W=>Js h x W
 obtain ⟨y,I⟩:∃ y,lC h x=y:=⟨_,rfl⟩
 rw [I] at L
 rw [I]
 clear I
 obtain ⟨M,Y,N,Z,rfl,rfl,O1,O2,b1,b2⟩:=rR h1 T
 clear h1 T
 have G:=O1.out
 have H:=O2.out
 go_enter func275,ntmps275
 go_wp2_with fail;refine aK w zB fun A=>?_;refine (OW.out _ (zO G G) (zO H H)).mono ?_;rintro _ w1 ⟨rfl,u⟩;obtain ⟨D,E,z⟩:=fH A u (b:=w);(try simp at E);(try simp [go_sem] at z);replace O:=dW z;clear z;have q:=D;clear u A
 have p1:=own_below G q
 have p2:=own_below H q
 obtain ⟨k0,k1,k2,k3⟩:=mF (a:=w) (b:=w1)
 go_wp2_with fail
 go_region_held3 (fun w'=>hp w' w=some (.cells (aF c (.slice M c.cells Y) (.slice N c.words Z)) 31)∧hp w' (w+1)=some (.cells (aB h) 49))
  (first|(simp [*,go_sem]))
  (first|((go_at_call 277;refine aK w zB fun A=>?_;refine aK w1 zB fun R=>?_;refine (L.out _).mono ?_;rintro _ w2 ⟨rfl,m⟩;obtain ⟨U,F,z⟩:=fH A m (b:=w);(try simp at F);(first|simp [go_sem,O,k0,k1,k2,k3] at z|simp [go_sem] at z|skip);replace O:=dW z;clear z;have r:=bT R m;clear m A R);have r1:=own_below p1 r;have r2:=own_below p2 r))
 go_wp2
 refine rE results275 rfl (aO c (.slice M c.cells Y) (.slice N c.words Z) tZ) rfl (aJ y tZ) ⟨⟨_,_,rfl,?_,?_,aM _ _,aM _ _⟩,dR zB⟩
 ·exact zO r1 G
 ·exact zO r2 H
theorem xY (c:Ch) (h:Ha) (J L:Value) (lo:Nat) (w:World) (h1:aD w lo J c.cells) (U:aG w lo L c.words) (V:aW c=true) (x:Int) (Y:iZ c h.mine=x) (hp:¬ x<0) (hq:(h.pos == 24)=true) (X:(h.code != 2)=true) :
  Calls prog 275 #[.agg (aF c J L),.agg (aB h)] w fun e W'=>∃ T s,e=.panicked [{ v:=.iface T s,recovered:=false }]∧Below w w W':=by
 have OW:=aA fun W a b=>mq c h J L lo W a b V x Y hp
 clear Y hp V
 have FE:=aA fun W a b=>F7 c h J L lo W a b X
 clear X
 have a0:(h.pos == 23)=false:=by simp at hq ⊢;omega
 obtain ⟨y,A,z,D,rfl,rfl,O1,O2,b1,b2⟩:=rR h1 U
 clear h1 U
 have M:=O1.out
 have N:=O2.out
 go_enter func275,ntmps275
 go_wp2_with fail;refine aK w zB fun R=>?_;refine (OW.out _ (zO M M) (zO N N)).mono ?_;rintro _ w1 ⟨rfl,r⟩;obtain ⟨E,H,O⟩:=fH R r (b:=w);(try simp at H);(try simp [go_sem] at O);replace bX:=dW O;clear O;have q:=E;clear r R
 have p1:=own_below M q
 have p2:=own_below N q
 obtain ⟨k0,k1,k2,k3⟩:=mF (a:=w) (b:=w1)
 go_upto_region 6 with fail
 refine iT [[],[],[],[1,2],[0],[1,2,3],[]] [23,24,25,26,6] (fun l s u=>(Below w w u)∧(hp u w=some (.cells (aF c (.slice y c.cells A) (.slice z c.words D)) 31))∧(hp u (w+1)=some (.cells (aB h) 49))∧(l 4=false→hp u (w+1+1)=some (.cells (aF Ch.zero (.slice none 0 0) (.slice none 0 0)) 31))∧(aD u lo (.slice y c.cells A) c.cells)∧(aG u lo (.slice z c.words D) c.words)∧(l 0=true→s 23=.agg (aF c (.slice y c.cells A) (.slice z c.words D)))∧(l 1=true→s 24=.agg (aF c (.slice y c.cells A) (.slice z c.words D)))∧(l 2=true→s 25=.agg (aB h))∧(l 3=true→False)) (fun s=>⟨zB,by simp [go_sem, *],by simp [go_sem, *],fun _=>by simp [go_sem, *],qh p1,qh p2,nB,nB,nB,nB⟩) ?_ ?_
 refine ⟨?_,?_,?_,?_,?_,?_,?_,trivial⟩;iterate 7 (intro l s u hl I hn m K F;rotate_left)
 ·intro l s w8 G m
  exact ((jD m).2 (G 3 rfl)).elim
 ·have zc:=m.out.2.1
  go_simp
  refine F.out (upd s 23 (.agg (aF c (.slice y c.cells A) (.slice z c.words D)))) _ _ (by simp [aC] <;> rfl) (kC (kB (kX (fun _=>rfl) id)) m.out)
 ·have zc:=m.out.2.1
  go_simp
  refine F.out (upd s 24 (.agg (aF c (.slice y c.cells A) (.slice z c.words D)))) _ _ (by simp [aC] <;> rfl) (kC (kB (kA (kX (fun _=>rfl) id))) m.out)
 ·have zh:=m.out.2.2.1
  go_simp
  refine F.out (upd s 25 (.agg (aB h))) _ _ (by simp [aC] <;> rfl) (kD (kX (fun _=>rfl) id) m.out)
 ·have e1:=((jC m.out).2.2.2.1 (I 1 rfl))
  have e2:=((jD m.out).1 (I 2 rfl))
  go_simp
  go_at_call 278
  refine (FE.out _ m.out.2.2.2.2.1 (jC m.out).2.1).mono ?_
  rintro _ wy ⟨T,sv,rfl,hE⟩
  exact ⟨rfl,T,sv,rfl,bT m.out.1 hE⟩
 ·have e0:=((jC m.out).2.2.1 (I 0 rfl))
  have hB:=m.out.1
  have Z:=m.out.2.2.2.1 hl
  go_simp
  refine F.out (s) _ _ (by simp [aC,e0] <;> rfl) (kX (BK hB tO) (kX ((aR tO).trans m.out.2.1) (kX ((aR tO).trans m.out.2.2.1) (kX (fun h9=>absurd h9 (by rw [show upd l 4 true 4=true from rfl];decide)) (kX (dI m.out.2.2.2.2.1 Z (by decide)) (kX (dI (jC m.out).2.1 Z (by decide)) id))))) m.out)
 ·exact ((jD m).2 (I 3 rfl)).elim
 ·go_simp
  refine F.out (upd s 6 (.bool true)) _ _ (by simp [aC] <;> rfl) (m.out)
theorem Be (c:Ch) (h:Ha) (K L:Value) (lo:Nat) (w:World) (h1:aD w lo K c.cells) (Y:aG w lo L c.words) (E:0≤h.cell) (F:h.cell<c.cells.length) (hc:aW c=true) (x:Int) (hx:iZ c h.mine=x) (hp:¬ x<0) (hq:(h.pos == 24)=true) (hk:(h.code != 2)=false) :
  dG 275 c h K L lo w ((c,aV 2 (cellAt c h.cell).e,true)):=by
 have OW:=aA fun W a b=>mq c h K L lo W a b hc x hx hp
 clear hx hp hc
 have R:=aA fun W a b=>Dq c h K L lo W a b E F hk
 clear hk E F
 have a0:(h.pos == 23)=false:=by simp at hq ⊢;omega
 obtain ⟨y,M⟩:∃ y,aV 2 (cellAt c h.cell).e=y:=⟨_,rfl⟩
 rw [M] at R
 rw [M]
 clear M
 obtain ⟨T,q1,U,q2,rfl,rfl,O1,O2,b1,b2⟩:=rR h1 Y
 clear h1 Y
 have I:=O1.out
 have J:=O2.out
 go_enter func275,ntmps275
 go_wp2_with fail;refine aK w zB fun A=>?_;refine (OW.out _ (zO I I) (zO J J)).mono ?_;rintro _ w1 ⟨rfl,u⟩;obtain ⟨D,G,z⟩:=fH A u (b:=w);(try simp at G);(try simp [go_sem] at z);replace V:=dW z;clear z;have q:=D;clear u A
 have N:=own_below I q
 have O:=own_below J q
 obtain ⟨k0,k1,k2,k3⟩:=mF (a:=w) (b:=w1)
 go_wp2_with fail
 go_region_held3 (fun w'=>hp w' w=some (.cells (aF c (.slice T c.cells q1) (.slice U c.words q2)) 31)∧hp w' (w+1)=some (.cells (aB h) 49))
  (first|(simp [*,go_sem]))
  (first|((go_at_call 278;refine aK w zB fun A=>?_;refine aK w1 zB fun X=>?_;refine (R.out _ (zO N N) (zO O O)).mono ?_;rintro _ w2 ⟨rfl,m⟩;obtain ⟨Z,H,z⟩:=fH A m (b:=w);(try simp at H);(first|simp [go_sem,V,k0,k1,k2,k3] at z|simp [go_sem] at z|skip);replace V:=dW z;clear z;have r:=bT X m;clear m A X);have r1:=own_below N r;have r2:=own_below O r))
 go_wp2
 refine rE results275 rfl (aO c (.slice T c.cells q1) (.slice U c.words q2) tZ) rfl (aJ y tZ) ⟨⟨_,_,rfl,?_,?_,aM _ _,aM _ _⟩,dR zB⟩
 ·exact zO r1 I
 ·exact zO r2 J
theorem DV (c:Ch) (h:Ha) (A D:Value) (lo:Nat) (w:World) (h1:aD w lo A c.cells) (G:aG w lo D c.words) (H:aW c=true) (x:Int) (I:iZ c h.mine=x) (hp:¬ x<0) (hq:(h.pos == 23)=false) (N:(h.pos == 24)=false) (O:(h.pos == 25)=false) :
  Calls prog 275 #[.agg (aF c A D),.agg (aB h)] w fun e M=>∃ T s,e=.panicked [{ v:=.iface T s,recovered:=false }]∧Below w w M:=by
 have L:=aA fun W a b=>mq c h A D lo W a b H x I hp
 clear I hp H
 obtain ⟨U,q1,V,q2,rfl,rfl,J,K,X,Y⟩:=rR h1 G
 clear h1 G
 have y:=J.out
 have z:=K.out
 go_enter func275,ntmps275
 go_wp2_with fail;refine aK w zB fun F=>?_;refine (L.out _ (zO y y) (zO z z)).mono ?_;rintro _ R ⟨rfl,q⟩;obtain ⟨r,u,E⟩:=fH F q (b:=w);(try simp at u);(try simp [go_sem] at E);replace Z:=dW E;clear E;have m:=r;clear q F
 have p1:=own_below y m
 have p2:=own_below z m
 obtain ⟨k0,k1,k2,k3⟩:=mF (a:=w) (b:=R)
 go_wp2
 exact ⟨rfl,_,_,rfl,by exact zB⟩
theorem Bf (c:Ch) (h:Ha) (v1 v2:Value) (lo:Nat) (w:World) (h1:aD w lo v1 c.cells) (h2:aG w lo v2 c.words) (a9:0≤h.cell) (aa:h.cell<c.cells.length) (hc:aW c=true) (x:Int) (hx:iZ c h.mine=x) (hp:¬ x<0) (hq:(h.pos == 25)=true) :
  dG 275 c h v1 v2 lo w ((cB c h.cell (pg h),aV 3 0,true)):=by
 have OW:=aA fun W a b=>mq c h v1 v2 lo W a b hc x hx hp
 clear hx hp hc
 obtain ⟨v,hv⟩:∃ v,pg h=v:=⟨_,rfl⟩
 have GO:=aA fun W=>F6 h.code h.elem W
 rw [show (if h.code == 1 then (9:Int) else 10)=v from hv] at GO
 rw [hv]
 clear hv
 obtain ⟨i,a0⟩:∃ i:Nat,h.cell=(i:Int):=⟨h.cell.toNat,by omega⟩
 have hi:i<c.cells.length:=by omega
 have ag:(0:Int)≤(i:Int):=by omega
 have ah:(i:Int)<(c.cells.length:Int):=by omega
 have ac:=h1.ne h2
 obtain ⟨a2,q2,rfl,_⟩:=h2.seg
 obtain ⟨g,q1,rfl,ae,a4,O,ab⟩:=h1.open1 hi
 have O1:=aA h1
 have O2:=aA h2
 have ak:g<w.heap.size+1:=by omega
 have al:g<w.heap.size+1+1:=by omega
 have am:g<w.heap.size+1+1+1:=by omega
 have ar:g≠w.heap.size:=by omega
 have au:g≠w.heap.size+1:=by omega
 have av:g≠w.heap.size+1+1:=by omega
 have aw:g≠w.heap.size+1+1+1:=by omega
 have an:w.heap.size≠g:=by omega
 have ao:w.heap.size+1≠g:=by omega
 have ap:w.heap.size+1+1≠g:=by omega
 have aq:w.heap.size+1+1+1≠g:=by omega
 have hx:Hid (cellAt c h.cell=c.cells.getD i ⟨0,0,0⟩):=by simp [cellAt,Hid,a0]
 have c0:=O 0 tO
 have c1:=O 1 tO
 have c2:=O 2 tO
 simp only [C3.val,Nat.add_zero] at c0 c1 c2
 have ai:(h.pos == 23)=false:=by simp at hq ⊢;omega
 have aj:(h.pos == 24)=false:=by simp at hq ⊢;omega
 rw [show cB c h.cell v=cB c i v by rw [a0]]
 have e1:=jK c i v
 have P1:=fun W (o:aD W lo (.slice (some ⟨g,0,none⟩) c.cells q1) c.cells)=>aD.setS o hi v
 rw [← e1] at P1
 clear hx O h1 h2 e1
 generalize c.cells.getD i ⟨0,0,0⟩=x0 at *
 have o1:=O1.out
 have o2:=O2.out
 have a8:=aA a0
 clear a0 a9 aa
 go_enter func275,ntmps275
 go_wp2_with fail;refine aK w zB fun bb=>?_;refine (OW.out _ (zO o1 o1) (zO o2 o2)).mono ?_;rintro _ w1 ⟨rfl,X⟩;have V:Below w w w1:=bT bb X;have a5:=X.size;(try simp at a5);have H:=q4 X (b:=w);(try simp [go_sem] at H);(try clear m E D y);(try clear r M I A);(try clear u T R L);(try clear F Z Y U);obtain ⟨m,r,u,F⟩:=H;obtain ⟨E,D,y⟩:=bO m;obtain ⟨M,I,A⟩:=bO r;obtain ⟨T,R,L⟩:=bO u;obtain ⟨Z,Y,U⟩:=bO F;have a1:Below w w w1:=V;clear X bb
 have p1:=own_below o1 a1
 have p2:=own_below o2 a1
 obtain ⟨k0,k1,k2,k3⟩:=mF (a:=w) (b:=w1)
 go_upto_region 8 with fail
 refine iT [[],[0],[],[2],[],[4],[4,5],[0,1,2,3],[0,1,2,3,7],qB [8]] [29,30,31,32,33,34,35,36,37] (fun l s wx=>(l 9=false→Below w1 w1 wx)∧(l 0=true→s 29=.pointer (some ⟨w,4,none⟩))∧(l 1=true→s 30=.slice (some ⟨g,0,none⟩) c.cells q1)∧(l 2=true→s 31=.pointer (some ⟨w+1,3,none⟩))∧(l 3=true→s 32=.int .i64 i)∧(l 4=true→s 33=.pointer (some ⟨w+1,1,none⟩))∧(l 5=true→s 34=.agg #[h.code,h.elem])∧(l 6=true→s 35=.int .i64 v)∧(l 7=true→s 36=.pointer (some ⟨g,i*3,none⟩))∧(l 8=true→s 37=.pointer (some ⟨g,i*3,none⟩))∧(l 9=true→Gr g w1 wx∧aD wx lo (.slice (some ⟨g,0,none⟩) c.cells q1) (cB c i v).cells∧aG wx lo (.slice a2 c.words q2) c.words)) (fun s=>⟨fun _=>(Below.refl _ _).drew,nB,nB,nB,nB,nB,nB,nB,nB,nB,nB⟩) ?_ ?_
 refine ⟨?_,?_,?_,?_,?_,?_,?_,?_,?_,?_,trivial⟩;iterate 10 (intro l s wx hl hd hn z K hK;rotate_left)
 ·intro l s w5 a3 z
  obtain ⟨J,r1,r2⟩:=((jD z).2.2 (a3 9 rfl))
  clear z a3
  have ax:some w.heap.size≠some g:=by simp;omega
  have ay:some (w.heap.size+1)≠some g:=by simp;omega
  have az:some (w.heap.size+1+1)≠some g:=by simp;omega
  have b0:some (w.heap.size+1+1+1)≠some g:=by simp;omega
  have a6:=J.size;(try (simp at a6));have H:=And.intro (bE J (b:=w+1+1+1) tS (by assumption)) <| And.intro (bE J (b:=w+1+1) tS (by assumption)) <| And.intro (bE J (b:=w+1) tS (by assumption)) <| bE J (b:=w) tS (by assumption);(first|simp [go_sem,m,r,u,F,U,L,A,y,k0,k1,k2,k3] at H|simp [go_sem] at H|skip);(try clear m E D y);(try clear r M I A);(try clear u T R L);(try clear F Z Y U);obtain ⟨m,r,u,F⟩:=H;obtain ⟨E,D,y⟩:=bO m;obtain ⟨M,I,A⟩:=bO r;obtain ⟨T,R,L⟩:=bO u;obtain ⟨Z,Y,U⟩:=bO F
  have af:Gr g w w5:=gT (rf V) J
  clear J
  go_wp2_with fail
  go_region_held3 (fun w'=>hp w' w=some (.cells (aF c (.slice (some ⟨g,0,none⟩) c.cells q1) (.slice a2 c.words q2)) 31)∧hp w' (w+1)=some (.cells (aB h) 49))
   (first|(simp [*,go_sem]))
   (first|(go_at_call 48;refine (iF _ _ _).mono ?_;rintro _ w6 ⟨rfl,G⟩;have ad:Gr g w w6:=gT zG (rf G);have a7:=G.size;(try (simp at a7));have H:=hQ G (b:=w);(first|(simp [go_sem,F,U] at H)|(simp [go_sem] at H));(try clear Z Y);(try clear F);have F:=H;clear H;(try clear U);obtain ⟨Z,Y,U⟩:=bO F;have H:=hQ G (b:=w+1);(first|(simp [go_sem,u,L] at H)|(simp [go_sem] at H));(try clear T R);(try clear u);have u:=H;clear H;(try clear L);obtain ⟨T,R,L⟩:=bO u;have H:=hQ G (b:=w+1+1);(first|(simp [go_sem,r,A] at H)|(simp [go_sem] at H));(try clear M I);(try clear r);have r:=H;clear H;(try clear A);obtain ⟨M,I,A⟩:=bO r;have H:=hQ G (b:=w+1+1+1);(first|(simp [go_sem,m,y] at H)|(simp [go_sem] at H));(try clear E D);(try clear m);have m:=H;clear H;(try clear y);obtain ⟨E,D,y⟩:=bO m;have p1:aD w6 lo (.slice (some ⟨g,0,none⟩) c.cells q1) (cB c i v).cells:=own_below (zO r1 o1) G;have p2:aG w6 lo (.slice a2 c.words q2) c.words:=own_below (zO r2 o2) G))
  go_wp2
  refine rE results275 rfl (aO (cB c i v) (.slice (some ⟨g,0,none⟩) c.cells q1) (.slice a2 c.words q2) tZ) rfl (aJ (aV 3 0) tZ) ⟨⟨_,_,rfl,?_,?_,aM _ _,aM _ _⟩,mY (show w.grownBy _ (some g) from zG)⟩
  ·show aD _ lo (.slice (some ⟨g,0,none⟩) c.cells q1) (cB c i v).cells
   exact zO p1 o1
  ·show aG _ lo (.slice a2 c.words q2) c.words
   exact zO p2 o2
 ·have N:=z.out.1 (hn 9 rfl)
  go_simp
  refine hK.out (upd s 29 (.pointer (some ⟨w,4,none⟩))) _ _ (by simp [aC] <;> rfl) (kA (kX (fun _=>rfl) id) z.out)
 ·have e0:=(z.out.2.1 (hd 0 rfl))
  have N:=z.out.1 (hn 9 rfl)
  have zc:=eP F N
  have zh:=eP u N
  have q:=(bO zc).1 4
  go_simp
  refine hK.out (upd s 30 (.slice (some ⟨g,0,none⟩) c.cells q1)) _ _ (by simp [aC,e0] <;> rfl) (kB (kX (fun _=>rfl) id) z.out)
 ·have N:=z.out.1 (hn 9 rfl)
  go_simp
  refine hK.out (upd s 31 (.pointer (some ⟨w+1,3,none⟩))) _ _ (by simp [aC] <;> rfl) (kB (kA (kX (fun _=>rfl) id)) z.out)
 ·have e2:=(z.out.2.2.2.1 (hd 2 rfl))
  have N:=z.out.1 (hn 9 rfl)
  have zc:=eP F N
  have zh:=eP u N
  have q:wx.cell? ⟨w+1,3,none⟩=some (.int .i64 i):=by rw [← a8.out];exact (bO zh).1 3
  go_simp
  refine hK.out (upd s 32 (.int .i64 i)) _ _ (by simp [aC,e2] <;> rfl) (kC (kX (fun _=>rfl) id) z.out)
 ·have N:=z.out.1 (hn 9 rfl)
  go_simp
  refine hK.out (upd s 33 (.pointer (some ⟨w+1,1,none⟩))) _ _ (by simp [aC] <;> rfl) (kC (kA (kX (fun _=>rfl) id)) z.out)
 ·have e4:=((jC z.out).2.1 (hd 4 rfl))
  have N:=z.out.1 (hn 9 rfl)
  have zc:=eP F N
  have zh:=eP u N
  have qa:=(bO zh).1 1
  have qb:=(bO zh).1 2
  go_simp
  refine hK.out (upd s 34 (.agg #[h.code,h.elem])) _ _ (by simp [aC,e4] <;> rfl) (kC (kB (kX (fun _=>rfl) id)) z.out)
 ·have e5:=((jC z.out).2.2.1 (hd 5 rfl))
  have N:=z.out.1 (hn 9 rfl)
  go_simp
  go_at_call 279
  refine (GO.out _).mono ?_
  rintro _ wy ⟨rfl,hE⟩
  refine hK.out (upd s 35 (.int .i64 v)) _ _ (by simp [aC,e5] <;> rfl) (kX (fun h9=>bT (z.out.1 h9) hE) (kC (kB (kX (fun _=>rfl) (kB (fun _=>nU (hn 9 rfl)))))) z.out)
 ·have e1:=(z.out.2.2.1 (hd 1 rfl))
  have e3:=(z.out.2.2.2.2.1 (hd 3 rfl))
  have N:=z.out.1 (hn 9 rfl)
  go_simp
  refine hK.out (upd s 36 (.pointer (some ⟨g,i*3,none⟩))) _ _ (by simp [aC,e1,e3] <;> rfl) (kD (kX (fun _=>rfl) id) z.out)
 ·have e7:=((jD z.out).1 (hd 7 rfl))
  have N:=z.out.1 (hn 9 rfl)
  go_simp
  refine hK.out (upd s 37 (.pointer (some ⟨g,i*3,none⟩))) _ _ (by simp [aC,e7] <;> rfl) (kD (kA (kX (fun _=>rfl) id)) z.out)
 ·have e8:=((jD z.out).2.1 (hd 8 rfl))
  have e6:=((jC z.out).2.2.2.1 (hd 6 rfl))
  have N:=z.out.1 hl
  have y0:=((bT V N).cell (p:=⟨g,i*3,none⟩) a4).trans c0
  have yf:=fun o=>((bT V N).frozen (p:=⟨g,o,none⟩) a4).trans (ab o)
  go_simp
  refine hK.out (s) _ _ (by simp [aC,e8,e6] <;> rfl) (kX (fun h9=>absurd h9 (by rw [show upd l 9 true 9=true from rfl];decide)) (kD (kA (fun _=>fun _=>⟨gS (rf N) (.inl rfl),P1 _ (own_below p1 N),aI (own_below p2 N) (ac g rfl) _⟩))) z.out)
theorem Gt {c:Ch} {v:Int} (m:kF c v=false):iZ c v=-1:=by simp [iZ,m]
theorem MK {c:Ch} {v:Int} (m:aW c=true) (u:kF c v=true):¬ iZ c v<0∧iZ c v=fJ c v:=by
 have q:iZ c v=fJ c v:=by simp [iZ,m,u]
 refine ⟨?_,q⟩
 rw [q]
 simp only [aW,Bool.and_eq_true] at m
 have y:=List.all_eq_true.1 m.2.2
 obtain ⟨h1,z⟩:=pK.1 u
 have r:(v - 1).toNat<c.words.length:=by omega
 have:=iP.1 (y _ (List.getElem_mem r))
 have e:fJ c v=c.words[(v - 1).toNat]:=by unfold fJ;rw [List.getD_eq_getElem?_getD,List.getElem?_eq_getElem r];rfl
 rw [e]
 omega
theorem tX {c:Ch} {h:Ha}:mD (c,h,true)=done c h:=rfl
theorem Gu {h:Ha} (m:bM h=true) (hp:23≤h.pos):h.code=1∨h.code=2:=by
 simp only [bM,oV,Bool.and_eq_true,iP] at m
 have q:¬ h.pos=0:=by omega
 simp [q] at m
 have:=m.1.2
 simp [eB] at this
 omega
theorem xZ (c:Ch) (h:Ha) (y:aW c=true) (H:bM h=true) :
  (∃ x:St,bV c h=mD x∧∀ (m q:Value) (lo:Nat) (W:World),aD W lo m c.cells→aG W lo q c.words→lo≤W.heap.size→Calls prog 275 #[.agg (aF c m q),.agg (aB h)] W fun r w'=>dJ W w' lo m q x r) ∨
  (bV c h=nothing∧∀ (m q:Value) (lo:Nat) (W:World),aD W lo m c.cells→aG W lo q c.words→lo≤W.heap.size→Calls prog 275 #[.agg (aF c m q),.agg (aB h)] W fun e X=>∃ T s,e=.panicked [{ v:=.iface T s,recovered:=false }]∧Below W W X):=by
 cases G:kF c h.mine with
 | false=>exact .inr ⟨by simp [bV,G],fun m q lo W D E _=>DU c h m q lo W D E y (Gt G)⟩
 | true =>
  obtain ⟨A,U⟩:=MK y G
  obtain ⟨J,Y⟩:=il H
  have K:h.cell<c.cells.length:=by have:=(kK y).1;omega
  cases M:(h.pos == 23) with
  | true =>
   have hp:h.pos=23:=by simpa using M
   refine .inl ⟨(c,lC h (iZ c h.mine),iZ c h.mine != 0),?_,fun m q lo W D E _=>Bd c h m q lo W D E y _ rfl A M⟩
   have u:bJ c h 23 25 0=true:=by simp [bJ,y,H,hp,dA]
   rw [U]
   by_cases N:fJ c h.mine=0
   ·simp [bV,u,G,hp,jR,N,lC,mD,y,H]
   ·have h0':(fJ c h.mine != 0)=true:=by simpa using N
    rw [h0',tX]
    simp only [bV,u,G,hp,jR,lC]
    simp [N]
    by_cases V:fJ c h.mine=2
    ·simp [V]
    ·by_cases I:h.code=1 <;> simp [V,I]
  | false =>
   have Z:¬ h.pos=23:=by simpa using M
   cases z:(h.pos == 24) with
   | true =>
    have hp:h.pos=24:=by simpa using z
    have u:bJ c h 23 25 0=true:=by simp [bJ,y,H,hp,dA]
    cases I:(h.code != 2) with
    | true =>
     refine .inr ⟨?_,fun m q lo W D E _=>xY c h m q lo W D E y _ rfl A z I⟩
     have L:¬ h.code=2:=by simpa using I
     have O:h.code=1:=by have:=Gu H tO;omega
     simp [bV,u,G,hp,O]
    | false =>
     refine .inl ⟨(c,aV 2 (cellAt c h.cell).e,true),?_,fun m q lo W D E _=>Be c h m q lo W D E J K y _ rfl A z I⟩
     have L:h.code=2:=by simpa using I
     rw [tX]
     simp [bV,u,G,hp,L]
   | false =>
    have a0:¬ h.pos=24:=by simpa using z
    cases F:(h.pos == 25) with
    | true =>
     have hp:h.pos=25:=by simpa using F
     have u:bJ c h 23 25 0=true:=by simp [bJ,y,H,hp,dA]
     refine .inl ⟨(cB c h.cell (pg h),aV 3 0,true),?_,fun m q lo W D E _=>Bf c h m q lo W D E J K y _ rfl A F⟩
     rw [tX]
     simp [bV,u,G,hp]
    | false =>
     have a1:¬ h.pos=25:=by simpa using F
     refine .inr ⟨?_,fun m q lo W D E _=>DV c h m q lo W D E y _ rfl A M z F⟩
     have R:bJ c h 23 25 0=false:=by
      have:dA h.pos 23 25=false:=by simp [dA];omega
      simp [bJ,this]
     simp [bV,R]
end
section
open Go.RowKit
attribute [local simp] aP
attribute [local go_sem ↓] aQ bF aY bY aZ bZ aX bB aN aU
theorem ML (w:World):Calls prog 233 #[] w fun r w'=>r=.returned (.tuple #[.agg (aF Ch.zero (.slice none 0 0) (.slice none 0 0)),.agg (aB Ha.zero),.bool false])∧Below w w w':=by
 go_enter func233,ntmps233
 go_wp2
 refine rE results233 rfl (aO Ch.zero (.slice none 0 0) (.slice none 0 0) (by simp [go_sem])) rfl (aJ Ha.zero (by simp [go_sem])) ⟨rfl,by exact zB⟩
theorem Iu {P:Program} {G:Func} {tmps:Array Value} {w:World} {p q u:Nat} {T S U:TypeId} {a E F:Addr} {x y z:Value} (h:G.results=#[.cell p T,.cell q S,.cell u U]) (hp:tmps.getD p undef=.pointer (some a)) (H:(loadVar T a).run P w=.ok x w) (A:tmps.getD q undef=.pointer (some E)) (m:(loadVar S E).run P w=.ok y w) (D:tmps.getD u undef=.pointer (some F)) (r:(loadVar U F).run P w=.ok z w):(results G tmps).run P w=.ok (.tuple #[x,y,z]) w:=by
 simp only [results,h]
 simp [Sem.run_bind,Result.andThen,asAddr] at *
 simp [hp,H,A,m,D,r]
theorem MN {w:World} {b:Nat} {v:Bool} (h:hp w b=some (.cells #[.bool v] 4)):(loadVar 4 ⟨b,0,none⟩).run prog w=.ok (.bool v) w:=by
 have c:=(bO h).1 0
 simp at c
 simp [go_sem,c]
theorem Pt {lo:Nat} {w W m:World} (h:Below lo w W) (k:Below lo W m):Below lo w m:=⟨k.os.trans h.os,k.tape.trans h.tape,k.output.trans h.output,Nat.le_trans h.size k.size,fun i q=>(k.block i q).trans (h.block i q)⟩
theorem DW {w:World} {lo b i k m:Nat} {e r:TypeId} {u v:Value} {z:List Value} {y:Array Value} (h:w.ownsRow lo e k u m z) (D:hp w b=some (.cells y r)) (q:e≠r):(w.setCell ⟨b,i,none⟩ v).ownsRow lo e k u m z:=h.kept (gS (gR _ _) (.inl rfl)) (.inr fun A=>bH h D q b A rfl)
theorem MO {lo b i:Nat} {w W:World} {v:Value} (h:Below lo w W) (q:lo≤b):Below lo w (W.setCell ⟨b,i,none⟩ v):=⟨h.os,h.tape,h.output,by simpa [World.setCell] using h.size,fun k m=>(Below.heap_setCell _ _ _ k (by simp;omega)).trans (h.block k m)⟩
theorem JW (q r y:Nat) (T:TypeId) (s:Value) (m:List PanicEntry) (w:World) (K:Array Value) (L:Array Value) (x6:Value) (H:hp w q=some (.cells K 31)) (Z:K.size=6) (D:hp w r=some (.cells L 49)) (s5:L.size=14) (z:hp w y=some (.cells #[x6] 4)) :
  CallsD prog 274 #[.pointer (some ⟨q,0,none⟩),.pointer (some ⟨r,0,none⟩),.pointer (some ⟨y,0,none⟩)] (.panicking ({ v:=.iface T s,recovered:=false } :: m)) w fun e u' w' =>
   e=.returned (.tuple #[])∧u'=.panicking ({ v:=.iface T s,recovered:=true } :: m)∧hp w' q=some (.cells (aF Ch.zero (.slice none 0 0) (.slice none 0 0)) 31)∧hp w' r=some (.cells (aB Ha.zero) 49)∧hp w' y=some (.cells #[.bool false] 4)∧(∀ lo,lo≤q→lo≤r→lo≤y→lo≤w.heap.size→Below lo w w'):=by
 refine callsD_of_wpS func274 rfl fun c₀ cs N=>?_
 apply wpS_seq
 apply wpS_region
 simp [wpOpsS,go_sem,recoverD,N,ntmps274,Exit.thenS]
 refine wpS_cond (t:=true) (by simp [Act.eval,Array.replicate]) ?_
 simp only [if_true]
 refine wpS_of_wp ?_
 simp only [Array.replicate_succ,Array.replicate_zero,List.push_toArray,List.append_toArray,List.nil_append,List.cons_append,List.setIfInBounds_toArray,List.set_cons_zero,List.set_cons_succ]
 have U:q≠r:=by rintro rfl;rw [H] at D;simp at D
 have E:q≠y:=by rintro rfl;rw [H] at z;simp at z
 have F:r≠y:=by rintro rfl;rw [D] at z;simp at z
 go_wp2_with (go_at_call 233;refine (ML _).mono ?_;rintro _ G ⟨rfl,u⟩;have QD:=eP H u;have Rq:=eP D u;have Rs:=eP z u;have k4:okO 6 (hp G q)=true:=(by rw [QD];simp [okO,Z]);have A:=oC (ys:=aF Ch.zero (.slice none 0 0) (.slice none 0 0)) QD Rq (by decide);have k5:okO 14 (hp (dF G q (aF Ch.zero (.slice none 0 0) (.slice none 0 0))) r)=true:=(by rw [A];simp [okO,s5]);have V:=oC (ys:=aF Ch.zero (.slice none 0 0) (.slice none 0 0)) QD Rs (by decide);have J:=oC (ys:=aB Ha.zero) A V (by decide);have X:=oC (ys:=aB Ha.zero) A (ib (ys:=aF Ch.zero (.slice none 0 0) (.slice none 0 0)) QD) (by decide);have Y:=ib (ys:=aB Ha.zero) A;obtain ⟨c6,f6,I⟩:=bO J)
 refine ⟨rfl,_,rfl,_,results_none rfl _ _ _,rfl,rfl,(Below.heap_setCell _ _ _ q E).trans X,(Below.heap_setCell _ _ _ r F).trans Y,by rw [gG,J];rfl,fun lo O R I l=>MO (BK (BK (show Below lo w G from ⟨u.os,u.tape,u.output,u.size,fun k M=>u.block k (Nat.lt_of_lt_of_le M l)⟩) O) R) I⟩
theorem Gv (m q r:Nat) (w:World) :
  CallsD prog 274 #[.pointer (some ⟨m,0,none⟩),.pointer (some ⟨q,0,none⟩),.pointer (some ⟨r,0,none⟩)] .returning w fun e y w'=>e=.returned (.tuple #[])∧y=.returning∧w'=w:=by
 refine callsD_of_wpS func274 rfl fun c₀ cs u=>?_
 apply wpS_seq
 apply wpS_region
 simp [wpOpsS,go_sem,recoverD,u,ntmps274,Exit.thenS]
 refine wpS_cond (t:=false) (by simp [Act.eval,Array.replicate]) ?_
 simp only [Bool.false_eq_true,if_false]
 refine wpS_of_wp (wp_skip ?_)
 cases c₀
 simp_all [bodyPostS,results,results274]
theorem MP (c:Ch) (h:Ha) (a b:Option Addr) (p q:Nat) (w:World) (h1:fA w w a c.cells) (H:a=none→p=0) (G:fD w w b c.words) (I:b=none→q=0)
  (HB:∀ (W:World),fA W W a c.cells→(a=none→p=0)→fD W W b c.words→(b=none→q=0)→Calls prog 236 #[.func (.func 275) #[] #[],.agg (aF c (.slice a c.cells p) (.slice b c.words q)),.agg (aB h)] W fun e M=>∃ T s,e=.panicked [{ v:=.iface T s,recovered:=false }]∧Below W W M) :
  Calls prog 273 #[.agg (aF c (.slice a c.cells p) (.slice b c.words q)),.agg (aB h)] w fun r w'=>dE w w' nothing r:=by
 have R:∀ (F:Fn) (first cap:Array Value) (w:World),(Instr.makeFunc F first cap).run prog w=.ok (.func F first cap) w:=fun _ _ _ _=>rfl
 have J:=aA h1
 have K:=aA G
 have N:=aA H
 have O:=aA I
 have L:=aA HB
 clear h1 G H I HB
 go_enter_defers func273,ntmps273
 go_wp2_with fail
 refine aK w zB fun u=>?_
 refine (L.out _ (aT J u) N.out (aT K u) O.out).mono ?_
 rintro _ y ⟨T,s,rfl,m⟩
 have z:Below w w y:=bT u m
 have E:=m.size
 simp at E
 have Z:hp y (w+1+1)=some (.cells (aF Ch.zero (.slice none 0 0) (.slice none 0 0)) 31):=by rw [oW m (by simp)];simp [go_sem]
 have z5:hp y (w+1+1+1)=some (.cells (aB Ha.zero) 49):=by rw [oW m (by simp)];simp [go_sem]
 have z6:hp y (w+1+1+1+1)=some (.cells #[.bool false] 4):=by rw [oW m (by simp)];simp [go_sem]
 clear m u
 go_wp2
 refine leaves_cons (f:=274) (args:=#[.pointer (some ⟨w+1+1,0,none⟩),.pointer (some ⟨w+1+1+1,0,none⟩),.pointer (some ⟨w+1+1+1+1,0,none⟩)]) (by simp) (by simp [go_sem]) ?_
 refine (JW _ _ _ T s [] _ _ _ _ Z rfl z5 rfl z6).mono ?_
 rintro e u' U ⟨rfl,rfl,V,X,Y,D⟩
 have A:Below w w U:=Pt z (D w tO tO tO tO)
 exact ⟨_,Iu results273 rfl (aO Ch.zero (.slice none 0 0) (.slice none 0 0) V) rfl (aJ Ha.zero X) rfl (MN Y),lT _ _ _ _ _,A⟩
theorem uf (x:St) (c:Ch) (h:Ha) (a b:Option Addr) (p q:Nat) (w:World) (h1:fA w w a c.cells) (T:a=none→p=0) (R:fD w w b c.words) (U:b=none→q=0)
  (HB:∀ (W:World),fA W W a c.cells→(a=none→p=0)→fD W W b c.words→(b=none→q=0)→Calls prog 236 #[.func (.func 275) #[] #[],.agg (aF c (.slice a c.cells p) (.slice b c.words q)),.agg (aB h)] W fun e Z=>dE W Z x e) :
  Calls prog 273 #[.agg (aF c (.slice a c.cells p) (.slice b c.words q)),.agg (aB h)] w fun r w'=>dE w w' x r:=by
 have a1:∀ (O:Fn) (first cap:Array Value) (w:World),(Instr.makeFunc O first cap).run prog w=.ok (.func O first cap) w:=fun _ _ _ _=>rfl
 have V:=aA h1
 have X:=aA R
 have Z1:=aA T
 have Z2:=aA U
 have Y:=aA HB
 clear h1 R T U HB
 go_enter_defers func273,ntmps273
 go_wp2_with fail
 generalize m:World.alloc _ _=z
 have u:Below w w z:=by rw [← m];exact zB
 have a2:z=w.heap.size+1+1+1+1+1:=by rw [← m];simp
 have y:hp z (w+1+1)=some (.cells (aF Ch.zero (.slice none 0 0) (.slice none 0 0)) 31):=by rw [← m];simp [go_sem]
 have M:hp z (w+1+1+1)=some (.cells (aB Ha.zero) 49):=by rw [← m];simp [go_sem]
 have N:hp z (w+1+1+1+1)=some (.cells #[.bool false] 4):=by rw [← m];simp [go_sem]
 clear m
 refine (Y.out z ((V.out.below u).more u.size) Z1.out ((X.out.below u).more u.size) Z2.out).mono ?_
 rintro _ G ⟨⟨y1,y2,rfl,E,F,F1,F2⟩,A⟩
 replace y:=eP y A
 replace M:=eP M A
 replace N:=eP N A
 have a0:Below w w G:=bT u A
 have a3:=A.size
 replace E:aD G w y1 x.1.cells:=aH E tO
 replace F:aG G w y2 x.1.words:=aH F tO
 clear A
 obtain ⟨I,K,ea,_⟩:=E.seg
 obtain ⟨J,L,eb,_⟩:=F.seg
 subst ea eb
 have k4:okO 6 (hp G (w+1+1))=true:=by rw [y];rfl
 have D:=oC (ys:=aF x.1 (.slice I x.1.cells K) (.slice J x.1.words L)) y M (by decide)
 have k5:okO 14 (hp (dF G (w+1+1) (aF x.1 (.slice I x.1.cells K) (.slice J x.1.words L))) (w+1+1+1))=true:=by rw [D];rfl
 have q6:=oC (ys:=aF x.1 (.slice I x.1.cells K) (.slice J x.1.words L)) y N (by decide)
 have r4:=oC (ys:=aB x.2.1) D (ib (ys:=aF x.1 (.slice I x.1.cells K) (.slice J x.1.words L)) y) (by decide)
 have r5:=ib (ys:=aB x.2.1) D
 have H:=oC (ys:=aB x.2.1) D q6 (by decide)
 obtain ⟨c6,f6,l6⟩:=bO H
 go_wp2
 refine leaves_cons (f:=274) (args:=#[.pointer (some ⟨w+1+1,0,none⟩),.pointer (some ⟨w+1+1+1,0,none⟩),.pointer (some ⟨w+1+1+1+1,0,none⟩)]) (by simp) (by simp [go_sem]) ?_
 refine (Gv _ _ _ _).mono ?_
 rintro e u' w2 ⟨rfl,rfl,rfl⟩
 exact ⟨_,Iu results273 rfl (aO x.1 _ _ ((Below.heap_setCell _ _ _ _ (by simp)).trans r4)) rfl (aJ x.2.1 ((Below.heap_setCell _ _ _ _ (by simp)).trans r5)) rfl (MN (by rw [gG,H];rfl)),⟨_,_,rfl,DW (dI (dI E y (by decide)) D (by decide)) H (by decide),DW (dI (dI F y (by decide)) D (by decide)) H (by decide),fun j e=>.inr (E.lt j e).1,fun j e=>.inr (F.lt j e).1⟩,by exact zB⟩
theorem DX (F:Nat) (c:Ch) (h:Ha) (a b:Option Addr) (p q:Nat) (w:World) (h1:fA w w a c.cells) (z1:a=none→p=0) (h2:fD w w b c.words) (z2:b=none→q=0) (hc:aW c=true) (hh:bM h=true) (eg:∀ args w,(callFunc F args).run prog w=.ok (.enter F args) w) (HF:∀ (v1 v2:Value) (lo:Nat) (W:World),aD W lo v1 c.cells→aG W lo v2 c.words→lo≤W.heap.size→Calls prog F #[.agg (aF c v1 v2),.agg (aB h)] W fun e W'=>∃ T s,e=.panicked [{ v:=.iface T s,recovered:=false }]∧Below W W W') :
  Calls prog 236 #[.func (.func F) #[] #[],.agg (aF c (.slice a c.cells p) (.slice b c.words q)),.agg (aB h)] w fun e w'=>∃ T s,e=.panicked [{ v:=.iface T s,recovered:=false }]∧Below w w w':=by
 obtain ⟨n1,n2⟩:=kK hc
 have l1:c.cells.length≤maxLen:=by unfold maxLen;omega
 have l2:c.words.length≤maxLen:=by unfold maxLen;omega
 have m1:c.cells.length≤1099511627776:=by omega
 have m2:c.words.length≤1099511627776:=by omega
 have H1:=aA h1
 have H2:=aA h2
 have Z1:=aA z1
 have Z2:=aA z2
 clear h1 h2 z1 z2 n1 n2
 have a4:=aA HF
 clear HF
 go_enter func236,ntmps236
 go_wp2_with fail;refine aK w zB fun Y=>?_;refine (jX c a b p q _ (aT H1 Y) (aT H2 Y) l1 l2).mono ?_;rintro _ w1 ⟨rfl,M⟩;have a5:Below w w w1:=bT Y M;have a2:=M.size;(try simp at a2);have zz:=q4 M (b:=w);(try simp [go_sem] at zz);(try clear r G D y);(try clear u J I E);(try clear A V R O);(try clear L a0 Z X);obtain ⟨r,u,A,L⟩:=zz;obtain ⟨G,D,y⟩:=bO r;obtain ⟨J,I,E⟩:=bO u;obtain ⟨V,R,O⟩:=bO A;obtain ⟨a0,Z,X⟩:=bO L;clear M Y
 rw [hc]
 go_wp2_with fail;refine aK w zB fun Y=>?_;refine (jv h _).mono ?_;rintro _ w2 ⟨rfl,N⟩;have H:Below w w w2:=bT Y N;have a3:=N.size;(try simp at a3);have zz:=q4 N (b:=w);(first|simp [go_sem,r,u,A,L,X,O,E,y] at zz|simp [go_sem] at zz|skip);(try clear r G D y);(try clear u J I E);(try clear A V R O);(try clear L a0 Z X);obtain ⟨r,u,A,L⟩:=zz;obtain ⟨G,D,y⟩:=bO r;obtain ⟨J,I,E⟩:=bO u;obtain ⟨V,R,O⟩:=bO A;obtain ⟨a0,Z,X⟩:=bO L;clear N Y
 rw [hh]
 go_upto_region 3 with fail
 refine iT [[],[],[1],[],[0,1,2,3],[0,1,2,3,4],[0,1,2,3,4,5],[0,1,2,3,4,5],[0,1,2,3,4,5],[],[],[0,1,2,3,4,5,6,9],[0,1,2,3,4,5,7,10],[0,1,2,3,4,5,8]] [25,26,27,28,29,24,30,31,32,9,10,11] (fun l s wx=>(Below w2 w2 wx)∧(l 0=true→s 25=.func (.func F) #[] #[])∧(l 1=true→s 26=.agg (aF c (.slice a c.cells p) (.slice b c.words q)))∧(l 2=true→s 27=.agg (aF c (s 1001) (s 1002))∧aD wx w2 (s 1001) c.cells∧aG wx w2 (s 1002) c.words)∧(l 3=true→s 28=.agg (aB h))∧(l 4=true→False)) (fun s=>⟨(Below.refl _ _).drew,nB,nB,nB,nB,nB⟩) ?_ ?_
 refine ⟨?_,?_,?_,?_,?_,?_,?_,?_,?_,?_,?_,?_,?_,?_,trivial⟩;iterate 14 (intro l s wx hl U hn m K hK;rotate_left)
 ·intro l s w8 a1 m
  exact ((jC m).2 (a1 4 rfl)).elim
 ·go_simp
  refine hK.out (upd s 25 (.func (.func F) #[] #[])) _ _ (by simp [aC] <;> rfl) (kA (kX (fun _=>rfl) id) m.out)
 ·have z:=eP L m.out.1
  go_simp
  refine hK.out (upd s 26 (.agg (aF c (.slice a c.cells p) (.slice b c.words q)))) _ _ (by simp [aC] <;> rfl) (kB (kX (fun _=>rfl) id) m.out)
 ·have e1:=(m.out.2.2.1 (U 1 rfl))
  go_simp
  go_at_call 101
  refine (uG c a b p q _ ((H1.out.below (bT H m.out.1)).more (Below.size (bT H m.out.1))) Z1.out ((H2.out.below (bT H m.out.1)).more (Below.size (bT H m.out.1))) Z2.out m1 m2).mono ?_
  rintro _ wy ⟨⟨v1,v2,rfl,X1,X2⟩,hE⟩
  refine hK.out (upd (upd (upd s 1001 (v1)) 1002 (v2)) 27 (.agg (aF c v1 v2))) _ _ (by simp [aC,e1] <;> rfl) (kX (bT m.out.1 hE) (kB (kX (fun _=>⟨rfl,aH X1 (Below.size m.out.1),aH X2 (Below.size m.out.1)⟩) (kA (fun _=>nU (hn 4 rfl))))) m.out)
 ·have z:=eP A m.out.1
  go_simp
  refine hK.out (upd s 28 (.agg (aB h))) _ _ (by simp [aC] <;> rfl) (kC (kX (fun _=>rfl) id) m.out)
 ·have e0:=(m.out.2.1 (U 0 rfl))
  have e3:=(m.out.2.2.2.2.1 (U 3 rfl))
  obtain ⟨e2,o1,o2⟩:=(m.out.2.2.2.1 (U 2 rfl))
  go_simp
  refine (a4.out _ _ w2 _ o1 o2 (Below.size m.out.1)).mono ?_
  rintro _ wy ⟨T,sv,rfl,hE⟩
  exact ⟨rfl,T,sv,rfl,bT H (bT m.out.1 hE)⟩
 ·exact ((jC m).2 (U 4 rfl)).elim
 ·exact ((jC m).2 (U 4 rfl)).elim
 ·exact ((jC m).2 (U 4 rfl)).elim
 ·exact ((jC m).2 (U 4 rfl)).elim
 ·go_simp
  refine hK.out (upd s 9 (.pointer (some ⟨wx,0,none⟩))) _ _ (by simp [aC] <;> rfl) (kX (bT m.out.1 (aS _ _)) (kB (kX (fun h=>(let ⟨e,X1,X2⟩:=(m.out.2.2.2.1 h);⟨e,own_below X1 (aS _ _),own_below X2 (aS _ _)⟩)) id)) m.out)
 ·go_simp
  refine hK.out (upd s 10 (.pointer (some ⟨wx,0,none⟩))) _ _ (by simp [aC] <;> rfl) (kX (bT m.out.1 (aS _ _)) (kB (kX (fun h=>(let ⟨e,X1,X2⟩:=(m.out.2.2.2.1 h);⟨e,own_below X1 (aS _ _),own_below X2 (aS _ _)⟩)) id)) m.out)
 ·exact ((jC m).2 (U 4 rfl)).elim
 ·exact ((jC m).2 (U 4 rfl)).elim
 ·exact ((jC m).2 (U 4 rfl)).elim
theorem qR (c:Ch) (h:Ha) (a b:Option Addr) (p q:Nat) (w:World) (h1:fA w w a c.cells) (F:a=none→p=0) (E:fD w w b c.words) (G:b=none→q=0) (I:c.cells.length≤maxLen) (J:c.words.length≤maxLen) :
  Calls prog 273 #[.agg (aF c (.slice a c.cells p) (.slice b c.words q)),.agg (aB h)] w fun r w'=>dE w w' (bV c h) r:=by
 cases A:aW c with
 | false =>
  rw [show bV c h=nothing by simp [bV,bJ,A]]
  exact uf nothing c h a b p q w h1 F E G fun W m y u z=>nE _ c h a b p q W m y u z I J A
 | true =>
  cases D:bM h with
  | false =>
   rw [show bV c h=nothing by simp [bV,bJ,D]]
   exact uf nothing c h a b p q w h1 F E G fun W m y u z=>nG _ c h a b p q W m y u z I J A D
  | true =>
   rcases xZ c h A D with ⟨x,e,H⟩|⟨e,H⟩
   ·rw [e]
    exact uf (mD x) c h a b p q w h1 F E G fun W m y u z=>nD _ x c h a b p q W m y u z A D (fun args w=>by simp [go_sem]) H
   ·rw [e]
    exact MP c h a b p q w h1 F E G fun W m y u z=>(DX _ c h a b p q W m y u z A D (fun args w=>by simp [go_sem]) H)
end
section
open Go.RowKit
attribute [local simp] aP
attribute [local go_sem ↓] aQ bF aY bY aZ bZ aX bB aN aU
attribute [local go_sem ↓] Ir
def Gw (x:St):St:=if x.2.2 then done x.1 x.2.1 else nothing
theorem DY {c:Ch} {i f t v:Int} (h:bQ c i f t v=false):bK c i f t v=c:=by
 have e:lG (cellAt c i) f t v=cellAt c i:=by
  have r:jS (cellAt c i).s (cellAt c i).e (cellAt c i).t f t v=false:=h
  simp [lG,ng,vz,r]
 unfold bK setAt
 rw [e]
 unfold cellAt
 have:c.cells.set i.toNat (c.cells.getD i.toNat ⟨0,0,0⟩)=c.cells:=by
  apply List.ext_getElem?
  intro n
  rw [List.getElem?_set]
  by_cases q:i.toNat=n
  ·subst q
   by_cases m:i.toNat<c.cells.length
   ·simp [m]
   ·simp [m,Nat.le_of_not_lt m]
  ·simp [q]
 rw [this]
theorem lX (c:Ch) (h:Ha):Gw (c,h,true)=done c h:=rfl
theorem Pv (c:Ch) (h:Ha) (hs:h.seen=0∨h.seen=1∨(h.seen≠0∧h.seen≠1)):Gw (kR c h)=jQ c h:=by
 have K:Gw (pE c h)=if bQ c h.cell h.seen 2 0 then done (bK c h.cell h.seen 2 0) (aV 1 0) else done (bK c h.cell h.seen 2 0) { h with pos:=3 }:=by
  unfold pE
  cases E:bQ c h.cell h.seen 2 0 with
  | true=>simp [lX]
  | false=>simp [lX,DY E]
 have F:Gw (OU c h)=done (fP c h 3 23 3).1 (fP c h 3 23 3).2:=by
  unfold OU zw fP
  by_cases A:80≤c.words.length
  ·simp [A,lX]
  ·cases E:bQ c h.cell h.seen 3 (c.words.length+1) with
   | true=>simp [A,lX]
   | false=>simp [A,lX,DY E]
 unfold kR jQ
 rcases hs with m|m|⟨m,h1⟩
 ·have z:(h.seen == 1)=false:=by simp [m]
  have q:(h.seen == 0)=true:=by simp [m]
  have u:(h.seen != 0 && h.seen != 1)=false:=by simp [m]
  rw [u]
  by_cases y:h.cell<(if h.come<h.fin then h.fin else h.come)
  ·have r:sG h=true:=by simp [sG,q,y]
   have D:(h.seen == 0 && (decide (h.come≤h.cell) && decide (h.fin≤h.cell)))=false:=by
    rw [q]
    simp
    split at y <;> omega
   rw [r,D]
   simpa using K
  ·have r:sG h=false:=by simp [sG,z,y]
   have D:(h.seen == 0 && (decide (h.come≤h.cell) && decide (h.fin≤h.cell)))=true:=by
    rw [q]
    simp
    split at y <;> omega
   rw [r,D,q]
   simpa using F
 ·have q:(h.seen == 0)=false:=by simp [m]
  have u:(h.seen != 0 && h.seen != 1)=false:=by simp [m]
  have r:sG h=true:=by simp [sG,m]
  rw [r,u,q]
  simpa using K
 ·have z:(h.seen == 1)=false:=by simpa using h1
  have q:(h.seen == 0)=false:=by simpa using m
  have u:(h.seen != 0 && h.seen != 1)=true:=by simp [m,h1]
  have r:sG h=false:=by simp [sG,z,q]
  rw [r,u,q]
  rfl
theorem sK (x:St) (h:x.2.2=true∨x=nothing):mD x=Gw x:=by
 rcases h with h|h
 ·obtain ⟨c,y,m⟩:=x
  cases h
  rfl
 ·subst h
  rfl
theorem PY (c:Ch) (h:Ha):(kR c h).2.2=true∨kR c h=nothing:=by
 unfold kR pE OU zw
 repeat' split
 all_goals first|exact .inl rfl|exact .inr rfl
theorem Q0 (c:Ch) (h:Ha):(Fq c h).2.2=true∨Fq c h=nothing:=by
 unfold Fq
 split
 ·exact .inl rfl
 ·exact .inr rfl
theorem qU (c:Ch) (h:Ha) (E F:Value) (lo:Nat) (w:World) (h1:aD w lo E c.cells) (Y:aG w lo F c.words) :
  (∀ (O:(h.code != 1)=true),Calls prog 237 #[.agg (aF c E F),.agg (aB h)] w fun r w'=>dJ w w' lo E F (nothing) r) ∧
  (∀ (O:(h.code != 1)=false) (hp:(9:Int)≤h.pos),Calls prog 237 #[.agg (aF c E F),.agg (aB h)] w fun r w'=>dJ w w' lo E F (nothing) r):=by
 constructor
 case' left =>
  intro O
  have mA:Hid (0=0):=rfl
 case' right =>
  intro O hp
  have mB:Hid (0=0):=rfl
 all_goals
  have T:=aA fun W=>gV W lo E F
  have TT:=aA fun w=>uM w
  generalize nothing=x at *
  obtain ⟨R,q1,U,q2,rfl,rfl,o1,o2,b1,b2,m1,m2,a3,a7,a4,a8,a5,a9,a6,aa⟩:=Ep h1 Y
  clear h1 Y
  go_enter func237,ntmps237
  go_wp2_with fail;refine aK w zB fun X=>?_;refine (TT.out _).mono ?_;rintro _ w1 ⟨rfl,m⟩;obtain ⟨G,H,u⟩:=fH X m (b:=w);(try simp at H);(try simp [go_sem] at u);replace V:=dW u;clear u;have Z:=G;clear m X
  unfold Ps
  go_wp2_with fail
  refine (T.out _).mono ?_
  rintro _ w3 ⟨⟨y1,y2,rfl,A,D,K,L⟩,q⟩
  have J:=dR (a:=(Value.slice R c.cells q1).ownBlock) (b:=(Value.slice U c.words q2).ownBlock) q
  have a0:jI (Value.slice R c.cells q1).ownBlock (Value.slice U c.words q2).ownBlock w w3:=gU (dR zB) J
  have I:=J.2.2.2.1;(try (simp at I));have u:=xD J (b:=w);(first|simp [go_sem,V] at u|simp [go_sem] at u|skip);replace V:=dW u;clear u
  clear J q
  obtain ⟨⟨y,z⟩,M,N⟩:=sO (w:=w) (w+1+1+1+1) K L b1 b2;obtain ⟨ya,yp,rfl,_⟩:=A.seg;obtain ⟨yb,yq,rfl,_⟩:=D.seg
  go_wp2
  refine rE results237 rfl (aO x.1 (.slice ya x.1.cells yp) (.slice yb x.1.words yq) tY) rfl (aJ x.2.1 tY) ⟨⟨_,_,rfl,?_,?_,M,N⟩,by exact zN⟩
  ·exact zP A A y
  ·exact zP D D z
theorem Bg (c:Ch) (h:Ha) (m q:Value) (lo:Nat) (w:World) (h1:aD w lo m c.cells) (u:aG w lo q c.words) (y:(h.code != 1)=true) :
  Calls prog 237 #[.agg (aF c m q),.agg (aB h)] w fun r w'=>dJ w w' lo m q (nothing) r:=(qU c h m q lo w h1 u).1 y
theorem yg (c:Ch) (h:Ha) (m q:Value) (lo:Nat) (w:World) (h1:aD w lo m c.cells) (u:aG w lo q c.words) (y:(h.code != 1)=false) (hp:(9:Int)≤h.pos) :
  Calls prog 237 #[.agg (aF c m q),.agg (aB h)] w fun r w'=>dJ w w' lo m q (nothing) r:=(qU c h m q lo w h1 u).2 y hp
theorem yj (c:Ch) (h:Ha) (H:aW c=true) (K:bM h=true):∃ x:St,bI c h=mD x∧∀ (m q:Value) (lo:Nat) (W:World),aD W lo m c.cells→aG W lo q c.words→lo≤W.heap.size→Calls prog 237 #[.agg (aF c m q),.agg (aB h)] W fun r w'=>dJ W w' lo m q x r:=by
 cases I:(h.code != 1) with
 | true =>
  have L:¬ h.code=1:=by simpa using I
  exact ⟨nothing,by simp [bI,bJ,L];rfl,fun m q lo W u y _=>Bg c h m q lo W u y I⟩
 | false =>
  have A:h.code=1:=by simpa using I
  have V:0≤h.pos∧h.pos≠0∧eB h.code h.elem=true:=by
   have:=K
   simp only [bM,oV,Bool.and_eq_true,iP] at this
   by_cases J:h.pos=0
   ·simp [J,sV,A] at this
   ·simp [J] at this
    exact ⟨this.1.1.1,J,this.1.2⟩
  obtain ⟨X,Y,E⟩:=V
  obtain ⟨F,U⟩:=il K
  have G:h.cell<c.cells.length:=by have:=(kK H).1;omega
  by_cases N:9≤h.pos
  ·have M:bJ c h 1 8 1=false:=by
    have:dA h.pos 1 8=false:=by simp [dA];omega
    simp [bJ,this]
   exact ⟨nothing,by simp [bI,M];rfl,fun m q lo W u y _=>yg c h m q lo W u y I N⟩
  have D:bJ c h 1 8 1=true:=by
   have:dA h.pos 1 8=true:=by simp [dA];omega
   simp [bJ,H,K,this,A]
  have O:h.pos=1∨h.pos=2∨h.pos=3∨h.pos=4∨h.pos=5∨h.pos=6∨h.pos=7∨h.pos=8:=by omega
  rcases O with hp|hp|hp|hp|hp|hp|hp|hp
  ·by_cases hs:c.sent=40
   ·skip
    refine ⟨(c,aV 4 0,true),?_,fun m q lo W u y z=>iD 239 1 ((c,aV 4 0,true)) c h m q lo W u y z A hp tO rfl (fun args w=>by simp [go_sem]) (fun m q lo W u y z=>Ag c h m q lo W u y hs)⟩
    rw [sK _ (.inl rfl)]
    simp [bI,D,hp,uk,hs,lX]
   ·skip
    refine ⟨({ c with sent:=c.sent+1 },{ h with cell:=c.sent,pos:=2 },true),?_,fun m q lo W u y z=>iD 239 1 (({ c with sent:=c.sent+1 },{ h with cell:=c.sent,pos:=2 },true)) c h m q lo W u y z A hp tO rfl (fun args w=>by simp [go_sem]) (fun m q lo W u y z=>Ah c h m q lo W u y hs (zC H))⟩
    rw [sK _ (.inl rfl)]
    simp [bI,D,hp,uk,hs,lX]
  ·skip
   refine ⟨(nR c h.cell h.elem,{ h with pos:=3 },true),?_,fun m q lo W u y z=>iD 240 2 ((nR c h.cell h.elem,{ h with pos:=3 },true)) c h m q lo W u y z A hp tO rfl (fun args w=>by simp [go_sem]) (fun m q lo W u y z=>Dr c h m q lo W u y F G)⟩
   rw [sK _ (.inl rfl)]
   simp [bI,D,hp,Hg,lX]
  ·have T:bI c h=Gw (Fq c h):=by
    simp only [bI,D,hp,vI]
    cases z:(kv c h).2 <;> simp [Fq,z,Gw,nothing]
   refine ⟨Fq c h,T.trans (sK _ (Q0 c h)).symm,?_⟩
   exact fun m q lo W u y z=>iD 241 3 (Fq c h) c h m q lo W u y z A hp tO rfl (fun args w=>by simp [go_sem]) (fun m q lo W u y z=>Ao c h m q lo W u y F G E)
  ·skip
   refine ⟨(c,{ h with fin:=c.fin,pos:=5 },true),?_,fun m q lo W u y z=>iD 242 4 ((c,{ h with fin:=c.fin,pos:=5 },true)) c h m q lo W u y z A hp tO rfl (fun args w=>by simp [go_sem]) (fun m q lo W u y z=>Df c h m q lo W u y)⟩
   rw [sK _ (.inl rfl)]
   simp [bI,D,hp,lX]
  ·skip
   refine ⟨(c,{ h with come:=c.got,pos:=6 },true),?_,fun m q lo W u y z=>iD 243 5 ((c,{ h with come:=c.got,pos:=6 },true)) c h m q lo W u y z A hp tO rfl (fun args w=>by simp [go_sem]) (fun m q lo W u y z=>Af c h m q lo W u y)⟩
   rw [sK _ (.inl rfl)]
   simp [bI,D,hp,lX]
  ·skip
   refine ⟨kR c h,?_,fun m q lo W u y z=>iD 244 6 (kR c h) c h m q lo W u y z A hp tO rfl (fun args w=>by simp [go_sem]) (fun m q lo W u y z=>Dv c h m q lo W u y F G H z)⟩
   rw [sK _ (PY c h),Pv c h tO]
   simp [bI,D,hp]
  ·skip
   refine ⟨PH c h,?_,fun m q lo W u y z=>iD 245 7 (PH c h) c h m q lo W u y z A hp tO rfl (fun args w=>by simp [go_sem]) (fun m q lo W u y z=>Au c h m q lo W u y H z E)⟩
   rw [sK _ (by unfold PH BN;split <;> exact .inl rfl)]
   unfold PH BN
   cases R:eY c h.wait 1 with
   | true=>simp [bI,D,hp,mR,R,lX]
   | false=>simp [bI,D,hp,mR,R,lX,pM R]
  ·skip
   refine ⟨(cB c h.cell 7,aV 1 0,true),?_,fun m q lo W u y z=>iD 246 8 ((cB c h.cell 7,aV 1 0,true)) c h m q lo W u y z A hp tO rfl (fun args w=>by simp [go_sem]) (fun m q lo W u y z=>Ai c h m q lo W u y F G)⟩
   rw [sK _ (.inl rfl)]
   simp [bI,D,hp,lX]
theorem ym (c:Ch) (h:Ha) (a b:Option Addr) (p q:Nat) (w:World) (h1:fA w w a c.cells) (E:a=none→p=0) (D:fD w w b c.words) (F:b=none→q=0) (X:c.cells.length≤maxLen) (Y:c.words.length≤maxLen) :
  Calls prog 235 #[.agg (aF c (.slice a c.cells p) (.slice b c.words q)),.agg (aB h)] w fun r w'=>dE w w' (bI c h) r:=by
 have K:∀ (w:World),fA w w a c.cells→(a=none→p=0)→fD w w b c.words→(b=none→q=0)→Calls prog 236 #[.func (.func 237) #[] #[],.agg (aF c (.slice a c.cells p) (.slice b c.words q)),.agg (aB h)] w fun r w'=>dE w w' (bI c h) r:=by
  intro w h1 E D F
  cases G:aW c with
  | false =>
   rw [show bI c h=nothing by simp [bI,bJ,G]]
   exact nE _ c h a b p q w h1 E D F X Y G
  | true =>
   cases J:bM h with
   | false =>
    rw [show bI c h=nothing by simp [bI,bJ,J]]
    exact nG _ c h a b p q w h1 E D F X Y G J
   | true =>
    obtain ⟨x,e,HT⟩:=yj c h G J
    rw [e]
    exact nD _ x c h a b p q w h1 E D F G J (fun args w=>by simp [go_sem]) HT
 generalize bI c h=x at *
 have T:=aA K
 have H1:=aA h1
 have H2:=aA D
 have Z1:=aA E
 have Z2:=aA F
 clear h1 D E F K
 have U:∀ j,(Value.slice none 0 0).ownBlock=some j→w.heap.size+1+1+1+1≤j:=fun j hj=>by cases hj
 have d2:=U
 go_enter func235,ntmps235
 go_wp2_with fail;refine aK w zB fun I=>?_;refine (T.out _ (aT H1 I) Z1.out (aT H2 I) Z2.out).mono ?_;rintro _ Z ⟨⟨y1,y2,rfl,m,u,L,M⟩,y⟩;obtain ⟨V,H,R⟩:=fH I y (b:=w);(try simp at H);(try simp [go_sem] at R);replace bX:=dW R;clear R y I
 replace m:aD Z w y1 x.1.cells:=aH m (by simp;omega)
 replace u:aG Z w y2 x.1.words:=aH u (by simp;omega)
 obtain ⟨⟨z,A⟩,N,O⟩:=mW (w:=w) (w+1+1+1+1) L M U d2;obtain ⟨ya,yp,rfl,_⟩:=m.seg;obtain ⟨yb,yq,rfl,_⟩:=u.seg
 go_wp2
 refine rE results235 rfl (aO x.1 (.slice ya x.1.cells yp) (.slice yb x.1.words yq) tY) rfl (aJ x.2.1 tY) ⟨⟨_,_,rfl,?_,?_,N,O⟩,by exact zB⟩
 ·exact zP m m z
 ·exact zP u u A
end
section
theorem Gx {x:Wo} {i:Nat} (p:(iy x.hands i).pos=0):iw x (i:Int)=(x,false):=by
 have e:iO x.ch (iy x.hands i)=fZ x.ch (iy x.hands i):=by
  unfold iO fZ
  rw [if_neg (by simp [dA,p]),if_neg (by simp [dA,p]),if_neg (by simp [dA,p]),if_neg (by simp [dA,p]),if_neg (by simp [dA,p]),if_neg (by simp [dA,p])]
 unfold iw lM
 rw [mX,e,FL p]
 rfl
end
end Go.Proofs.YtffhjmepfojhnaaGreat
