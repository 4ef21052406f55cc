/-
  The program's touch of growing, case by case, on hands and channels that are kept whole; the lists are the call's own.
-/
import Derived.Test.YtffhjmepfojhnaaGreatT04
import Derived.Test.YtffhjmepfojhnaaGreatT26
import Derived.LoopN
import Derived.WalkMore
import Derived.BigRegion
import Derived.Deep.DeepCutAuto
import Derived.Deep.RegionHeld3
set_option maxRecDepth 100000
set_option maxHeartbeats 2000000
set_option linter.unusedSimpArgs false
set_option linter.unusedVariables false
namespace Go.Proofs.YtffhjmepfojhnaaGreat
open _root_.Go.Proofs.Tryz
open Go.RowKit
attribute [local simp] dz
attribute [local go_sem ↓] dA fU dO gW dP gY dW fE bK eO
theorem BZ (c:Ch) (h:Ha) (v1 v2:Value) (lo:Nat) (w:World) (h1:aF w lo v1 c.cells) (h2:aI w lo v2 c.words) (I:(c.cap == 0)=true) (F:eD h.code h.elem=true) (H:0≤h.nxt∧h.nxt≤2) (K:(h.pos == 16)=true) (J:(h.code != 2)=false) :
    ed 268 c h v1 v2 lo w ((c,bF h,true)):=by
  obtain ⟨y0,G⟩:∃ y0,bF h=y0:=⟨_,rfl⟩;have GR:=aA fun W=>oW h W F H
  rw [G] at GR;rw [G];clear G F H;exact UQ
theorem Ca (c:Ch) (h:Ha) (v1 v2:Value) (lo:Nat) (w:World) (h1:aF w lo v1 c.cells) (h2:aI w lo v2 c.words) (J:(c.cap == 0)=false) (I:(c.fin == 40)=true) (F:eD h.code h.elem=true) (H:0≤h.nxt∧h.nxt≤2) (L:(h.pos == 16)=true) (K:(h.code != 2)=false) :
    ed 268 c h v1 v2 lo w ((c,bF h,true)):=by
  obtain ⟨y0,G⟩:∃ y0,bF h=y0:=⟨_,rfl⟩;have GR:=aA fun W=>oW h W F H
  rw [G] at GR;rw [G];clear G F H;exact UQ
theorem Cb (c:Ch) (h:Ha) (v1 v2:Value) (lo:Nat) (w:World) (h1:aF w lo v1 c.cells) (h2:aI w lo v2 c.words) (F:0≤c.fin∧c.fin≤40) (H:(c.cap == 0)=false) (G:(c.fin == 40)=false) (J:(h.pos == 16)=true) (I:(h.code != 2)=false) :
    ed 268 c h v1 v2 lo w (({ c with fin:=c.fin+1 },{ h with grow:=c.fin,pos:=17 },true)):=by
  have T:=aA fun W a b=>Bb c h v1 v2 lo W a b F
  change Hid (∀ W,_→_→Calls _ _ _ _ (fun r w'=>eB W w' lo v1 v2 (({ c with fin:=c.fin+1 },{ h with grow:=c.fin,pos:=17 },true)) r)) at T;clear F;generalize ({ c with fin:=c.fin+1 },{ h with grow:=c.fin,pos:=17 },true)=x at *;exact Ut
theorem Cc (c:Ch) (h:Ha) (v1 v2:Value) (lo:Nat) (w:World) (h1:aF w lo v1 c.cells) (h2:aI w lo v2 c.words) (K:c.sent≤h.grow) (F:eD h.code h.elem=true) (H:0≤h.nxt∧h.nxt≤2) (I:(h.pos == 17)=true) (L:(h.code != 2)=false) :
    ed 268 c h v1 v2 lo w ((c,bF h,true)):=by
  obtain ⟨y0,G⟩:∃ y0,bF h=y0:=⟨_,rfl⟩;have GR:=aA fun W=>oW h W F H
  rw [G] at GR;rw [G];clear G F H;have J:(h.pos == 16)=false:=by simp at I ⊢;omega
  exact UQ
theorem Ce (c:Ch) (h:Ha) (v1 v2:Value) (lo:Nat) (w:World) (h1:aF w lo v1 c.cells) (h2:aI w lo v2 c.words) (hg:¬ c.sent≤h.grow) (X:(h.pos == 17)=true) (hk:(h.code != 2)=false) :
    ed 268 c h v1 v2 lo w ((c,{ h with pos:=18 },true)):=by
  have Y:(h.pos == 16)=false:=by simp at X ⊢;omega
  obtain ⟨K,R,L,T,rfl,rfl,U,V,b1,b2⟩:=BJ h1 h2;clear h1 h2;have N:=U.out;have O:=V.out;go_enter func268,ntmps268;go_wp2;go_step3;go_wp2;go_step3;go_wp2;refine wp_loop_rounds 2 ?_;rw [rounds_succ];go_wp2_with fail
  go_region_held3 (fun w'=>hp w' w=some (.cells (aH c (.slice K c.cells R) (.slice L c.words T)) 31)∧hp w' (w+1)=some (.cells (aB h) 49))
    (first|(simp [*,go_sem]))
    (first|((go_at_call 247;refine aK w zB fun M=>?_;refine (fD _ _ _).mono ?_;rintro _ w2 ⟨rfl,G⟩;obtain ⟨H,I,J⟩:=gZ M G (b:=w);(try simp at I);(try simp [go_sem] at J);replace bX:=fP J;clear J;have F:=H;clear G M);have Z:=own_below N F;have r2:=own_below O F))
  go_wp2
  try rw [Exit.noGoto_ret]
  refine rE results268 rfl (bN c (.slice K c.cells R) (.slice L c.words T) tZ) rfl (aQ { h with pos:=18 } tZ) ⟨⟨_,_,rfl,?_,?_,aP _ _,aP _ _⟩,gy zB⟩
  · exact zO Z N
  · exact zO r2 O
theorem Bl (c:Ch) (h:Ha) (v1 v2:Value) (lo:Nat) (w:World) (h1:aF w lo v1 c.cells) (h2:aI w lo v2 c.words) (V:0≤h.grow) (X:h.grow<c.cells.length) (H:(cellAt c h.grow).s=5) (L:(h.pos == 18)=true) (hk:(h.code != 2)=false) :
    ed 268 c h v1 v2 lo w ((c,h,false)):=by
  have ac:(h.pos == 16)=false:=by simp at L ⊢;omega
  have ad:(h.pos == 17)=false:=by simp at L ⊢;omega
  obtain ⟨i,G⟩:∃ i:Nat,h.grow=(i:Int):=⟨h.grow.toNat,by omega⟩;have Z:i<c.cells.length:=tO;have a0:(0:Int)≤(i:Int):=tO;have a1:(i:Int)<(c.cells.length:Int):=tO;have a4:=h1.ne h2;obtain ⟨U,q2,rfl,_⟩:=h2.seg;obtain ⟨g,q1,rfl,K,a3,F,Y⟩:=h1.open1 Z;have R:=aA h1;have T:=aA h2;have a5:g<w.heap.size+1:=tO;have a6:g<w.heap.size+1+1:=tO;have a7:g<w.heap.size+1+1+1:=tO;have ae:g≠w.heap.size:=tO;have af:g≠w.heap.size+1:=tO
  have ag:g≠w.heap.size+1+1:=tO;have ah:g≠w.heap.size+1+1+1:=tO;have a8:w.heap.size≠g:=tO;have a9:w.heap.size+1≠g:=tO;have aa:w.heap.size+1+1≠g:=tO;have ab:w.heap.size+1+1+1≠g:=tO;have M:Hid (cellAt c h.grow=c.cells.getD i ⟨0,0,0⟩):=by simp [cellAt,Hid,G]
  have c0:=F 0 tO;have I:=F 1 tO;have c2:=F 2 tO;simp only [C3.val,Nat.add_zero] at c0 I c2;have J:=M.out;rw [J] at H;generalize c.cells.getD i ⟨0,0,0⟩=x at *;obtain ⟨s,e,t⟩:=x;simp only at H c0 I c2;subst H;clear M J F h1 h2;have N:=R.out;have O:=T.out;go_enter func268,ntmps268;go_wp2;go_step3;go_wp2;go_step3;go_wp2;refine wp_loop_rounds 2 ?_;rw [rounds_succ];have r1:=N;have r2:=O;go_wp2_with fail
  go_region
  go_wp2
  try rw [Exit.noGoto_ret]
  refine rE results268 rfl (bN c (.slice (some ⟨g,0,none⟩) c.cells q1) (.slice U c.words q2) tZ) rfl (aQ h (by simp [go_sem, *] <;> first|rfl|simp [dC,G])) ⟨⟨_,_,rfl,?_,?_,aP _ _,aP _ _⟩,gy zB⟩
  · exact zO r1 N
  · exact zO r2 O
theorem Bn (c:Ch) (h:Ha) (v1 v2:Value) (lo:Nat) (w:World) (h1:aF w lo v1 c.cells) (h2:aI w lo v2 c.words) (a1:0≤h.grow) (a3:h.grow<c.cells.length) (U:(cellAt c h.grow).s=0) (hq:(h.pos == 18)=true) (hk:(h.code != 2)=false) :
    ed 268 c h v1 v2 lo w ((c,{ dC h (cellAt c h.grow) with pos:=19 },true)):=by
  have ag:(h.pos == 16)=false:=by simp at hq ⊢;omega
  have ah:(h.pos == 17)=false:=by simp at hq ⊢;omega
  obtain ⟨i,O⟩:∃ i:Nat,h.grow=(i:Int):=⟨h.grow.toNat,by omega⟩;have hi:i<c.cells.length:=tO;have a5:(0:Int)≤(i:Int):=tO;have a6:(i:Int)<(c.cells.length:Int):=tO;have a8:=h1.ne h2;obtain ⟨Y,q2,rfl,_⟩:=h2.seg;obtain ⟨g,q1,rfl,a0,a7,F,a4⟩:=h1.open1 hi;have O1:=aA h1;have O2:=aA h2;have a9:g<w.heap.size+1:=tO;have aa:g<w.heap.size+1+1:=tO;have ab:g<w.heap.size+1+1+1:=tO;have ai:g≠w.heap.size:=tO;have aj:g≠w.heap.size+1:=tO
  have ak:g≠w.heap.size+1+1:=tO;have al:g≠w.heap.size+1+1+1:=tO;have ac:w.heap.size≠g:=tO;have ad:w.heap.size+1≠g:=tO;have ae:w.heap.size+1+1≠g:=tO;have af:w.heap.size+1+1+1≠g:=tO;have hx:Hid (cellAt c h.grow=c.cells.getD i ⟨0,0,0⟩):=by simp [cellAt,Hid,O]
  have c0:=F 0 tO;have c1:=F 1 tO;have c2:=F 2 tO;simp only [C3.val,Nat.add_zero] at c0 c1 c2;have ex:=hx.out;rw [ex] at U ⊢;generalize c.cells.getD i ⟨0,0,0⟩=x at *;obtain ⟨s,e,t⟩:=x;simp only at U c0 c1 c2;subst U;clear hx ex F h1 h2;have V:=O1.out;have X:=O2.out;go_enter func268,ntmps268;go_wp2;go_step3;go_wp2;go_step3;go_wp2;refine wp_loop_rounds 2 ?_;rw [rounds_succ];go_wp2_with fail;refine aK w zB fun L=>?_;refine (mX h 0 e t _).mono ?_;rintro _ w1 ⟨rfl,I⟩;obtain ⟨M,R,K⟩:=D8 L I (b:=w);(try simp at R);(try simp [go_sem] at K);replace Z:=ng K;clear K;have G:=M;clear I L
  have p1:=own_below V G;have p2:=own_below X G;obtain ⟨k0,k1,k2,k3⟩:=pz (a:=w) (b:=w1);have k4:w+1+1+1+1<w1.heap.size:=tO;go_wp2_with fail
  go_region_held3 (fun w'=>hp w' w=some (.cells (aH c (.slice (some ⟨g,0,none⟩) c.cells q1) (.slice Y c.words q2)) 31)∧hp w' (w+1)=some (.cells (aB { h with grow:=(i:Int),seen:=0,wait:=t }) 49))
    (first|(simp [*,go_sem]))
    (first|((go_at_call 247;refine aK w zB fun L=>?_;refine (fD _ _ _).mono ?_;rintro _ w2 ⟨rfl,J⟩;obtain ⟨N,T,K⟩:=gZ L J (b:=w);(try simp at T);(first|simp [go_sem,Z,k0,k1,k2,k3,k4] at K|simp [go_sem] at K|skip);replace Z:=fP K;clear K;have H:=N;clear J L);have r1:=own_below V H;have r2:=own_below X H))
  go_wp2
  try rw [Exit.noGoto_ret]
  refine rE results268 rfl (bN c (.slice (some ⟨g,0,none⟩) c.cells q1) (.slice Y c.words q2) tZ) rfl (aQ { dC h ⟨0,e,t⟩ with pos:=19 } NW) ⟨⟨_,_,rfl,?_,?_,aP _ _,aP _ _⟩,gy zB⟩
  · exact zO r1 V
  · exact zO r2 X
theorem Bo (c:Ch) (h:Ha) (v1 v2:Value) (lo:Nat) (w:World) (h1:aF w lo v1 c.cells) (h2:aI w lo v2 c.words) (a1:0≤h.grow) (a3:h.grow<c.cells.length) (U:(cellAt c h.grow).s=3) (hq:(h.pos == 18)=true) (hk:(h.code != 2)=false) :
    ed 268 c h v1 v2 lo w ((c,{ dC h (cellAt c h.grow) with pos:=19 },true)):=by
  have ag:(h.pos == 16)=false:=by simp at hq ⊢;omega
  have ah:(h.pos == 17)=false:=by simp at hq ⊢;omega
  obtain ⟨i,O⟩:∃ i:Nat,h.grow=(i:Int):=⟨h.grow.toNat,by omega⟩;have hi:i<c.cells.length:=tO;have a5:(0:Int)≤(i:Int):=tO;have a6:(i:Int)<(c.cells.length:Int):=tO;have a8:=h1.ne h2;obtain ⟨Y,q2,rfl,_⟩:=h2.seg;obtain ⟨g,q1,rfl,a0,a7,F,a4⟩:=h1.open1 hi;have O1:=aA h1;have O2:=aA h2;have a9:g<w.heap.size+1:=tO;have aa:g<w.heap.size+1+1:=tO;have ab:g<w.heap.size+1+1+1:=tO;have ai:g≠w.heap.size:=tO;have aj:g≠w.heap.size+1:=tO
  have ak:g≠w.heap.size+1+1:=tO;have al:g≠w.heap.size+1+1+1:=tO;have ac:w.heap.size≠g:=tO;have ad:w.heap.size+1≠g:=tO;have ae:w.heap.size+1+1≠g:=tO;have af:w.heap.size+1+1+1≠g:=tO;have hx:Hid (cellAt c h.grow=c.cells.getD i ⟨0,0,0⟩):=by simp [cellAt,Hid,O]
  have c0:=F 0 tO;have c1:=F 1 tO;have c2:=F 2 tO;simp only [C3.val,Nat.add_zero] at c0 c1 c2;have ex:=hx.out;rw [ex] at U ⊢;generalize c.cells.getD i ⟨0,0,0⟩=x at *;obtain ⟨s,e,t⟩:=x;simp only at U c0 c1 c2;subst U;clear hx ex F h1 h2;have V:=O1.out;have X:=O2.out;go_enter func268,ntmps268;go_wp2;go_step3;go_wp2;go_step3;go_wp2;refine wp_loop_rounds 2 ?_;rw [rounds_succ];go_wp2_with fail;refine aK w zB fun L=>?_;refine (mX h 3 e t _).mono ?_;rintro _ w1 ⟨rfl,I⟩;obtain ⟨M,R,K⟩:=D8 L I (b:=w);(try simp at R);(try simp [go_sem] at K);replace Z:=ng K;clear K;have G:=M;clear I L
  have p1:=own_below V G;have p2:=own_below X G;obtain ⟨k0,k1,k2,k3⟩:=pz (a:=w) (b:=w1);have k4:w+1+1+1+1<w1.heap.size:=tO;go_wp2_with fail
  go_region_held3 (fun w'=>hp w' w=some (.cells (aH c (.slice (some ⟨g,0,none⟩) c.cells q1) (.slice Y c.words q2)) 31)∧hp w' (w+1)=some (.cells (aB { h with grow:=(i:Int),seen:=3,wait:=t }) 49))
    (first|(simp [*,go_sem]))
    (first|((go_at_call 247;refine aK w zB fun L=>?_;refine (fD _ _ _).mono ?_;rintro _ w2 ⟨rfl,J⟩;obtain ⟨N,T,K⟩:=gZ L J (b:=w);(try simp at T);(first|simp [go_sem,Z,k0,k1,k2,k3,k4] at K|simp [go_sem] at K|skip);replace Z:=fP K;clear K;have H:=N;clear J L);have r1:=own_below V H;have r2:=own_below X H))
  go_wp2
  try rw [Exit.noGoto_ret]
  refine rE results268 rfl (bN c (.slice (some ⟨g,0,none⟩) c.cells q1) (.slice Y c.words q2) tZ) rfl (aQ { dC h ⟨3,e,t⟩ with pos:=19 } NW) ⟨⟨_,_,rfl,?_,?_,aP _ _,aP _ _⟩,gy zB⟩
  · exact zO r1 V
  · exact zO r2 X
theorem Bp (c:Ch) (h:Ha) (v1 v2:Value) (lo:Nat) (w:World) (h1:aF w lo v1 c.cells) (h2:aI w lo v2 c.words) (a1:0≤h.grow) (a3:h.grow<c.cells.length) (U:(cellAt c h.grow).s=9) (hq:(h.pos == 18)=true) (hk:(h.code != 2)=false) :
    ed 268 c h v1 v2 lo w ((c,{ dC h (cellAt c h.grow) with pos:=16 },true)):=by
  have ag:(h.pos == 16)=false:=by simp at hq ⊢;omega
  have ah:(h.pos == 17)=false:=by simp at hq ⊢;omega
  obtain ⟨i,O⟩:∃ i:Nat,h.grow=(i:Int):=⟨h.grow.toNat,by omega⟩;have hi:i<c.cells.length:=tO;have a5:(0:Int)≤(i:Int):=tO;have a6:(i:Int)<(c.cells.length:Int):=tO;have a8:=h1.ne h2;obtain ⟨Y,q2,rfl,_⟩:=h2.seg;obtain ⟨g,q1,rfl,a0,a7,F,a4⟩:=h1.open1 hi;have O1:=aA h1;have O2:=aA h2;have a9:g<w.heap.size+1:=tO;have aa:g<w.heap.size+1+1:=tO;have ab:g<w.heap.size+1+1+1:=tO;have ai:g≠w.heap.size:=tO;have aj:g≠w.heap.size+1:=tO
  have ak:g≠w.heap.size+1+1:=tO;have al:g≠w.heap.size+1+1+1:=tO;have ac:w.heap.size≠g:=tO;have ad:w.heap.size+1≠g:=tO;have ae:w.heap.size+1+1≠g:=tO;have af:w.heap.size+1+1+1≠g:=tO;have hx:Hid (cellAt c h.grow=c.cells.getD i ⟨0,0,0⟩):=by simp [cellAt,Hid,O]
  have c0:=F 0 tO;have c1:=F 1 tO;have c2:=F 2 tO;simp only [C3.val,Nat.add_zero] at c0 c1 c2;have ex:=hx.out;rw [ex] at U ⊢;generalize c.cells.getD i ⟨0,0,0⟩=x at *;obtain ⟨s,e,t⟩:=x;simp only at U c0 c1 c2;subst U;clear hx ex F h1 h2;have V:=O1.out;have X:=O2.out;go_enter func268,ntmps268;go_wp2;go_step3;go_wp2;go_step3;go_wp2;refine wp_loop_rounds 2 ?_;rw [rounds_succ];go_wp2_with fail;refine aK w zB fun L=>?_;refine (mX h 9 e t _).mono ?_;rintro _ w1 ⟨rfl,I⟩;obtain ⟨M,R,K⟩:=D8 L I (b:=w);(try simp at R);(try simp [go_sem] at K);replace Z:=ng K;clear K;have G:=M;clear I L
  have p1:=own_below V G;have p2:=own_below X G;obtain ⟨k0,k1,k2,k3⟩:=pz (a:=w) (b:=w1);have k4:w+1+1+1+1<w1.heap.size:=tO;go_wp2_with fail
  go_region_held3 (fun w'=>hp w' w=some (.cells (aH c (.slice (some ⟨g,0,none⟩) c.cells q1) (.slice Y c.words q2)) 31)∧hp w' (w+1)=some (.cells (aB { h with grow:=(i:Int),seen:=9,wait:=t }) 49))
    (first|(simp [*,go_sem]))
    (first|((go_at_call 247;refine aK w zB fun L=>?_;refine (fD _ _ _).mono ?_;rintro _ w2 ⟨rfl,J⟩;obtain ⟨N,T,K⟩:=gZ L J (b:=w);(try simp at T);(first|simp [go_sem,Z,k0,k1,k2,k3,k4] at K|simp [go_sem] at K|skip);replace Z:=fP K;clear K;have H:=N;clear J L);have r1:=own_below V H;have r2:=own_below X H))
  go_wp2
  try rw [Exit.noGoto_ret]
  refine rE results268 rfl (bN c (.slice (some ⟨g,0,none⟩) c.cells q1) (.slice Y c.words q2) tZ) rfl (aQ { dC h ⟨9,e,t⟩ with pos:=16 } NW) ⟨⟨_,_,rfl,?_,?_,aP _ _,aP _ _⟩,gy zB⟩
  · exact zO r1 V
  · exact zO r2 X
theorem Bq (c:Ch) (h:Ha) (v1 v2:Value) (lo:Nat) (w:World) (h1:aF w lo v1 c.cells) (h2:aI w lo v2 c.words) (a1:0≤h.grow) (a3:h.grow<c.cells.length) (s5:((cellAt c h.grow).s == 5)=false) (s0:((cellAt c h.grow).s == 0)=false) (s3:((cellAt c h.grow).s == 3)=false) (s9:((cellAt c h.grow).s == 9)=false) (G:eD h.code h.elem=true) (U:0≤h.nxt∧h.nxt≤2) (hq:(h.pos == 18)=true) (hk:(h.code != 2)=false) :
    ed 268 c h v1 v2 lo w ((c,bF (dC h (cellAt c h.grow)),true)):=by
  have ag:(h.pos == 16)=false:=by simp at hq ⊢;omega
  have ah:(h.pos == 17)=false:=by simp at hq ⊢;omega
  obtain ⟨i,M⟩:∃ i:Nat,h.grow=(i:Int):=⟨h.grow.toNat,by omega⟩;have hi:i<c.cells.length:=tO;have a5:(0:Int)≤(i:Int):=tO;have a6:(i:Int)<(c.cells.length:Int):=tO;have a8:=h1.ne h2;obtain ⟨a2,q2,rfl,_⟩:=h2.seg;obtain ⟨g,q1,rfl,a0,a7,F,a4⟩:=h1.open1 hi;have O1:=aA h1;have O2:=aA h2;have a9:g<w.heap.size+1:=tO;have aa:g<w.heap.size+1+1:=tO;have ab:g<w.heap.size+1+1+1:=tO;have ai:g≠w.heap.size:=tO;have aj:g≠w.heap.size+1:=tO
  have ak:g≠w.heap.size+1+1:=tO;have al:g≠w.heap.size+1+1+1:=tO;have ac:w.heap.size≠g:=tO;have ad:w.heap.size+1≠g:=tO;have ae:w.heap.size+1+1≠g:=tO;have af:w.heap.size+1+1+1≠g:=tO;have hx:Hid (cellAt c h.grow=c.cells.getD i ⟨0,0,0⟩):=by simp [cellAt,Hid,M]
  have c0:=F 0 tO;have c1:=F 1 tO;have c2:=F 2 tO;simp only [C3.val,Nat.add_zero] at c0 c1 c2;have ex:=hx.out;rw [ex] at s5 s0 s3 s9 ⊢;generalize c.cells.getD i ⟨0,0,0⟩=x at *;obtain ⟨s,e,t⟩:=x;simp only at s5 s0 s3 s9 c0 c1 c2;clear hx ex F h1 h2;obtain ⟨y0,N⟩:∃ y0,bF { h with grow:=(i:Int),seen:=s,wait:=t }=y0:=⟨_,rfl⟩
  have GR:=aA fun W=>oW { h with grow:=(i:Int),seen:=s,wait:=t } W G U
  rw [show dC h ⟨s,e,t⟩={ h with grow:=(i:Int),seen:=s,wait:=t } by rw [← M];rfl]
  rw [N] at GR;rw [N];clear N G U;have Y:=O1.out;have Z:=O2.out;go_enter func268,ntmps268;go_wp2;go_step3;go_wp2;go_step3;go_wp2;refine wp_loop_rounds 2 ?_;rw [rounds_succ];go_wp2_with fail;refine aK w zB fun O=>?_;refine (mX h s e t _).mono ?_;rintro _ w1 ⟨rfl,J⟩;obtain ⟨R,V,L⟩:=D8 O J (b:=w);(try simp at V);(try simp [go_sem] at L);replace bX:=ng L;clear L;have H:=R;clear J O
  have p1:=own_below Y H;have p2:=own_below Z H;obtain ⟨k0,k1,k2,k3⟩:=pz (a:=w) (b:=w1);have k4:w+1+1+1+1<w1.heap.size:=tO;go_wp2_with fail;rw [rounds_succ];go_wp2_with fail
  go_region_held3 (fun w'=>hp w' w=some (.cells (aH c (.slice (some ⟨g,0,none⟩) c.cells q1) (.slice a2 c.words q2)) 31)∧hp w' (w+1)=some (.cells (aB { h with grow:=(i:Int),seen:=s,wait:=t }) 49))
    (first|(simp [*,go_sem]))
    (first|((go_at_call 271;refine aK w zB fun O=>?_;refine (GR.out _).mono ?_;rintro _ w2 ⟨rfl,K⟩;obtain ⟨T,X,L⟩:=gZ O K (b:=w);(try simp at X);(first|simp [go_sem,bX,k0,k1,k2,k3,k4] at L|simp [go_sem] at L|skip);replace bX:=fP L;clear L;have I:=T;clear K O);have r1:=own_below Y I;have r2:=own_below Z I))
  go_wp2
  try rw [Exit.noGoto_ret]
  refine rE results268 rfl (bN c (.slice (some ⟨g,0,none⟩) c.cells q1) (.slice a2 c.words q2) tZ) rfl (aQ y0 (by simp [go_sem, *] <;> first|rfl|simp [dC,M])) ⟨⟨_,_,rfl,?_,?_,aP _ _,aP _ _⟩,gy zB⟩
  · exact zO r1 Y
  · exact zO r2 Z
theorem Cf (c:Ch) (h:Ha) (v1 v2:Value) (lo:Nat) (w:World) (h1:aF w lo v1 c.cells) (h2:aI w lo v2 c.words) (F:0≤h.grow) (G:h.grow<c.cells.length) (hs:(h.seen != 0)=true) (H:(h.pos == 19)=true) (L:(h.code != 2)=false) :
    ed 268 c h v1 v2 lo w (qU c h):=by
  have T:=aA fun W a b=>Eh c h v1 v2 lo W a b F G
  change Hid (∀ W,_→_→Calls _ _ _ _ (fun r w'=>eB W w' lo v1 v2 (qU c h) r)) at T;clear F G;have I:(h.pos == 16)=false:=by simp at H ⊢;omega
  have J:(h.pos == 17)=false:=by simp at H ⊢;omega
  have K:(h.pos == 18)=false:=by simp at H ⊢;omega
  generalize qU c h=x at *;exact Ut
theorem uL (c:Ch) (h:Ha) (v1 v2:Value) (lo:Nat) (w:World) (h1:aF w lo v1 c.cells) (h2:aI w lo v2 c.words) (a5:0≤h.grow) (a6:h.grow<c.cells.length) (hs:(h.seen != 0)=false) :
    (∀ (G:eD h.code h.elem=true) (R:0≤h.nxt∧h.nxt≤2) (ht:bB c h.grow 0 1 0=true) (Y:(h.pos == 19)=true) (hk:(h.code != 2)=false),Calls prog 268 #[.agg (aH c v1 v2),.agg (aB h)] w fun r w'=>eB w w' lo v1 v2 ((bU c h.grow 0 1 0,bF h,true)) r) ∧
    (∀ (ht:bB c h.grow 0 1 0=false) (Y:(h.pos == 19)=true) (hk:(h.code != 2)=false),Calls prog 268 #[.agg (aH c v1 v2),.agg (aB h)] w fun r w'=>eB w w' lo v1 v2 ((bU c h.grow 0 1 0,{ h with pos:=18 },true)) r):=by
  constructor
  case' left =>
    intro G R ht Y hk;have Z:Hid (0=0):=rfl
  case' right =>
    intro ht Y hk;have mB:Hid (0=0):=rfl
  all_goals
    have ag:(h.pos == 16)=false:=by simp at Y ⊢;omega
    have ah:(h.pos == 17)=false:=by simp at Y ⊢;omega
    have ai:(h.pos == 18)=false:=by simp at Y ⊢;omega
    obtain ⟨i,O⟩:∃ i:Nat,h.grow=(i:Int):=⟨h.grow.toNat,by omega⟩;have hi:i<c.cells.length:=tO;have T:=aA fun W a b=>oO c i 0 1 0 v1 v2 lo W a b hi
    have U:=ht;rw [O] at U;rw [U] at T;have e0:bU c h.grow 0 1 0=bU c i 0 1 0:=by rw [O]
    rw [e0]
    first
    | (replace Z:=Z
       obtain ⟨y0,V⟩:∃ y0,bF h=y0:=⟨_,rfl⟩;have GR:=aA fun W=>oW h W G R
       rw [V] at GR;rw [V]
       clear V G R)
    | replace mB:=mB
    have b1:=nC h1;have b2:=nC h2;have m1:=sH b1;have m2:=sH b2;have a8:=m1 (w.heap.size) tO;have ac:=m2 (w.heap.size) tO;have a9:=m1 (w+1) tO;have ad:=m2 (w+1) tO;have aa:=m1 (w+1+1) tO;have ae:=m2 (w+1+1) tO;have ab:=m1 (w+1+1+1) tO;have af:=m2 (w+1+1+1) tO;have o1:=h1;have o2:=h2;obtain ⟨K,M,e1,_⟩:=h1.seg;obtain ⟨L,N,e2,_⟩:=h2.seg;subst e1 e2;clear h1 h2 ht U e0 a5 a6;go_enter func268,ntmps268;go_wp2
    go_step3;go_wp2;go_step3;go_wp2;refine wp_loop_rounds 2 ?_;rw [rounds_succ];go_wp2_with fail;refine (T.out _ (zO o1 o1) (zO o2 o2)).mono ?_;rintro _ w1 ⟨rfl,p1,p2,H⟩;have a3:=H.size;(try (simp at a3));have I:=Vv H (b:=w);(try simp [go_sem] at I);replace bX:=fP I;clear I;have a0:=NT (w:=w) zB H;clear H;have a7:ni (Value.slice K c.cells M).ownBlock (Value.slice L c.words N).ownBlock w w1:=rA a0;obtain ⟨k0,k1,k2,k3⟩:=pz (a:=w) (b:=w1)
    have u1:aF w1 lo (.slice K c.cells M) (bU c i 0 1 0).cells:=p1;have u2:aI w1 lo (.slice L c.words N) (bU c i 0 1 0).words:=p2;clear p1 p2;go_wp2_with fail
    first
    | (replace Z:=Z
       rw [rounds_succ];go_wp2_with fail
       go_region_held3 (fun w'=>hp w' w=some (.cells (aH c (.slice K c.cells M) (.slice L c.words N)) 31)∧hp w' (w+1)=some (.cells (aB h) 49))
         (first|(simp [*,go_sem]))
         (first|(go_at_call 271;refine (GR.out _).mono ?_;rintro _ X ⟨rfl,F⟩;have a4:ni (Value.slice K c.cells M).ownBlock (Value.slice L c.words N).ownBlock w X:=kv zN (gy F);have p1:aF X lo (.slice K c.cells M) (bU c i 0 1 0).cells:=own_below (zO u1 o1) F;have p2:aI X lo (.slice L c.words N) c.words:=own_below (zO u2 o2) F;have J:=F.size;(try simp at J);have I:=NS F (b:=w);(first|simp [go_sem,bX,k0,k1,k2,k3] at I|simp [go_sem] at I|skip);replace bX:=fP I;clear I F)))
    | (replace mB:=mB
       go_region_held3 (fun w'=>hp w' w=some (.cells (aH c (.slice K c.cells M) (.slice L c.words N)) 31)∧hp w' (w+1)=some (.cells (aB h) 49))
         (first|(simp [*,go_sem]))
         (first|(go_at_call 247;refine (fD _ _ _).mono ?_;rintro _ X ⟨rfl,F⟩;have a4:ni (Value.slice K c.cells M).ownBlock (Value.slice L c.words N).ownBlock w X:=kv zN (gy F);have p1:aF X lo (.slice K c.cells M) (bU c i 0 1 0).cells:=own_below (zO u1 o1) F;have p2:aI X lo (.slice L c.words N) c.words:=own_below (zO u2 o2) F;have J:=F.size;(try simp at J);have I:=NS F (b:=w);(first|simp [go_sem,bX,k0,k1,k2,k3] at I|simp [go_sem] at I|skip);replace bX:=fP I;clear I F)))
    go_wp2
    try rw [Exit.noGoto_ret]
    first
    | (replace Z:=Z;refine rE results268 rfl (bN c (.slice K c.cells M) (.slice L c.words N) tZ) rfl (aQ y0 (by simp [go_sem, *] <;> first|rfl|simp [O])) ⟨⟨_,_,rfl,?_,?_,aP _ _,aP _ _⟩,zN⟩)
    | (replace mB:=mB;refine rE results268 rfl (bN c (.slice K c.cells M) (.slice L c.words N) tZ) rfl (aQ { h with pos:=18 } (by simp [go_sem, *] <;> first|rfl|simp [O])) ⟨⟨_,_,rfl,?_,?_,aP _ _,aP _ _⟩,zN⟩)
    · exact zO p1 o1
    · exact zO p2 o2
theorem Cg (c:Ch) (h:Ha) (v1 v2:Value) (lo:Nat) (w:World) (h1:aF w lo v1 c.cells) (h2:aI w lo v2 c.words) (G:0≤h.grow) (H:h.grow<c.cells.length) (hs:(h.seen != 0)=false) (F:eD h.code h.elem=true) (I:0≤h.nxt∧h.nxt≤2) (ht:bB c h.grow 0 1 0=true) (K:(h.pos == 19)=true) (J:(h.code != 2)=false) :
    Calls prog 268 #[.agg (aH c v1 v2),.agg (aB h)] w fun r w'=>eB w w' lo v1 v2 ((bU c h.grow 0 1 0,bF h,true)) r:=(uL c h v1 v2 lo w h1 h2 G H hs).1 F I ht K J
theorem Br (c:Ch) (h:Ha) (v1 v2:Value) (lo:Nat) (w:World) (h1:aF w lo v1 c.cells) (h2:aI w lo v2 c.words) (F:0≤h.grow) (G:h.grow<c.cells.length) (hs:(h.seen != 0)=false) (ht:bB c h.grow 0 1 0=false) (I:(h.pos == 19)=true) (H:(h.code != 2)=false) :
    Calls prog 268 #[.agg (aH c v1 v2),.agg (aB h)] w fun r w'=>eB w w' lo v1 v2 ((bU c h.grow 0 1 0,{ h with pos:=18 },true)) r:=(uL c h v1 v2 lo w h1 h2 F G hs).2 ht I H
theorem E9 (c:Ch) (h:Ha) (v1 v2:Value) (lo:Nat) (w:World) (h1:aF w lo v1 c.cells) (h2:aI w lo v2 c.words) (hc:aN c=true) (V:lo≤w.heap.size) (hk:(h.code != 2)=false) (O:(h.pos == 20)=true) :
    ed 268 c h v1 v2 lo w (Ju c { h with pos:=21 } { h with pos:=22 }):=by
  have R:=fun W a b hl=>Dq c { h with pos:=21 } { h with pos:=22 } v1 v2 lo W a b hc hl
  change ∀ W,_→_→_→Calls _ _ _ _ (fun r w'=>StepB W w' lo v1 v2 (Ju c { h with pos:=21 } { h with pos:=22 }) r) at R;clear hc;have a0:(h.pos == 16)=false:=by simp at O ⊢;omega
  have a3:(h.pos == 17)=false:=by simp at O ⊢;omega
  have a4:(h.pos == 18)=false:=by simp at O ⊢;omega
  have a5:(h.pos == 19)=false:=by simp at O ⊢;omega
  generalize Ju c { h with pos:=21 } { h with pos:=22 }=x at *
  obtain ⟨J,M,L,N,rfl,rfl,O1,O2,b1,b2⟩:=BJ h1 h2;clear h1 h2;have T:=aA R;clear R;have Z:=O1.out;have o2:=O2.out;go_enter func268,ntmps268;go_wp2;go_step3;go_wp2;go_step3;go_wp2;refine wp_loop_rounds 2 ?_;rw [rounds_succ];go_upto_region 30 with fail;refine lh [[],[],[1],[],[3],[0,1,2,3,4],[0,1,2,3,4,5],[0,1,2,3,4,5],[0,1,2,3,4,5],[0,1,2,3,4,5,6],[0,1,2,3,4,5,7],[0,1,2,3,4,5,8]] [99,100,101,102,103,104,105,106,107,6] (fun l s wx=>(ni (Value.slice J c.cells M).ownBlock (Value.slice L c.words N).ownBlock w wx)∧(w+1+1+1+1≤wx.heap.size)∧(hp wx w=some (.cells (aH c (.slice J c.cells M) (.slice L c.words N)) 31))∧(hp wx (w+1)=some (.cells (aB h) 49))∧(hp wx (w+1+1)=some (.cells (cond (l 9) (aH x.1 (s 1003) (s 1004)) (aH Ch.zero (.slice none 0 0) (.slice none 0 0))) 31))∧(hp wx (w+1+1+1)=some (.cells (cond (l 10) (aB x.2.1) (aB Ha.zero)) 49))∧(l 5=false→aF wx lo (.slice J c.cells M) c.cells)∧(l 5=false→aI wx lo (.slice L c.words N) c.words)∧(l 0=true→s 99=.agg (aH c (.slice J c.cells M) (.slice L c.words N)))∧(l 1=true→s 100=.agg (aB h))∧(l 2=true→s 101=.agg (aB ({ h with pos:=21 })))∧(l 3=true→s 102=.agg (aB h))∧(l 4=true→s 103=.agg (aB ({ h with pos:=22 })))∧(l 5=true→s 104=.tuple #[.agg (aH x.1 (s 1003) (s 1004)),.agg (aB x.2.1),.bool x.2.2]∧aF wx lo (s 1003) x.1.cells∧aI wx lo (s 1004) x.1.words∧ic w (.slice J c.cells M) (s 1003)∧ic w (.slice L c.words N) (s 1004))∧(l 6=true→s 105=.agg (aH x.1 (s 1003) (s 1004)))∧(l 7=true→s 106=.agg (aB x.2.1))∧(l 8=true→s 107=.bool x.2.2)∧(l 11=true→s 6=.bool x.2.2)) (fun s=>⟨gy zB,by simp,by simp [go_sem, *],by simp [go_sem, *],by simp [go_sem, *],by simp [go_sem, *],fun _=>by exact zO Z Z,fun _=>by exact zO o2 o2,nB,nB,nB,nB,nB,nB,nB,nB,nB,nB⟩) ?_ ?_
  refine ⟨?_,?_,?_,?_,?_,?_,?_,?_,?_,?_,?_,?_,trivial⟩;iterate 12 (intro l s wx hl hd I hf K hK;rotate_left)
  · intro l s wx H hf
    have hO:=hf.1;have z1:=hf.2.2.2.2.1;have X:=(jC hf).2.1;rw [H 9 rfl] at z1;rw [H 10 rfl] at X;dsimp only [cond] at z1 X;obtain ⟨_,X1,X2,F1,F2⟩:=((jC (jD hf)).2.1 (H 5 rfl));have Y:=((jE hf).2 (H 11 rfl));simp only [Y];clear Y hf H;go_wp2
    try rw [Exit.noGoto_ret]
    exact bodyPost_ret (zq results268 rfl (bN x.1 _ _ z1) rfl (aQ x.2.1 X)) rfl ⟨⟨_,_,rfl,X1,X2,F1,F2⟩,hO⟩
  · have zc:=hf.out.2.2.1
    go_simp;refine hK.out (upd s 99 (.agg (aH c (.slice J c.cells M) (.slice L c.words N)))) _ _ gM (kD (kX (fun _=>rfl) id) hf.out)
  · have zh:=hf.out.2.2.2.1
    go_simp;refine hK.out (upd s 100 (.agg (aB h))) _ _ gM (kD (kA (kX (fun _=>rfl) id)) hf.out)
  · have e1:=((jD hf.out).2.1 (hd 1 rfl))
    go_simp
    go_at_call 247
    refine (fD h 21 _).mono ?_;rintro _ wy ⟨rfl,G⟩;refine hK.out (upd s 101 (.agg (aB ({ h with pos:=21 })))) _ _ pQ (kX (kv hf.out.1 (gy G)) (kX (Nat.le_trans hf.out.2.1 (Below.size G)) (kX (iC hf.out.2.2.1 G) (kX (iC hf.out.2.2.2.1 G) (kX (iC hf.out.2.2.2.2.1 G) (kX (iC (jC hf.out).2.1 G) (kX (fun h9=>own_below ((jC hf.out).2.2.1 h9) G) (kX (fun h9=>own_below ((jC hf.out).2.2.2.1 h9) G) (kB (kX (fun _=>rfl) (kB (kX (nU (I 5 rfl)) (kX (nU (I 6 rfl)) (kX (nU (I 7 rfl)) (kX (nU (I 8 rfl)) (fun _=>nU (I 11 rfl)))))))))))))))) hf.out)
  · have zh:=hf.out.2.2.2.1
    go_simp;refine hK.out (upd s 102 (.agg (aB h))) _ _ gM (kD (kB (kA (kX (fun _=>rfl) id))) hf.out)
  · have e3:=((jD hf.out).2.2.2.1 (hd 3 rfl))
    go_simp
    go_at_call 247
    refine (fD h 22 _).mono ?_;rintro _ wy ⟨rfl,G⟩;refine hK.out (upd s 103 (.agg (aB ({ h with pos:=22 })))) _ _ yh (kX (kv hf.out.1 (gy G)) (kX (Nat.le_trans hf.out.2.1 (Below.size G)) (kX (iC hf.out.2.2.1 G) (kX (iC hf.out.2.2.2.1 G) (kX (iC hf.out.2.2.2.2.1 G) (kX (iC (jC hf.out).2.1 G) (kX (fun h9=>own_below ((jC hf.out).2.2.1 h9) G) (kX (fun h9=>own_below ((jC hf.out).2.2.2.1 h9) G) (kC (kX (fun _=>rfl) (kX (nU (I 5 rfl)) (kX (nU (I 6 rfl)) (kX (nU (I 7 rfl)) (kX (nU (I 8 rfl)) (fun _=>nU (I 11 rfl))))))))))))))) hf.out)
  · have e0:=((jD hf.out).1 (hd 0 rfl))
    have e2:=((jD hf.out).2.2.1 (hd 2 rfl));have e4:=((jC (jD hf.out)).1 (hd 4 rfl));go_simp
    go_at_call 253
    refine (T.out _ ((jC hf.out).2.2.1 hl) ((jC hf.out).2.2.2.1 hl) (Nat.le_trans V hf.out.1.2.2.2.1)).mono ?_;rintro _ wy ⟨⟨y1,y2,rfl,X1,X2,F1,F2⟩,G⟩;have hO:=gy (a:=(Value.slice J c.cells M).ownBlock) (b:=(Value.slice L c.words N).ownBlock) G;refine hK.out (upd (upd (upd s 1003 (y1)) 1004 (y2)) 104 (.tuple #[.agg (aH x.1 y1 y2),.agg (aB x.2.1),.bool x.2.2])) _ _ (by simp [aX,e0,e2,e4] <;> rfl) (kX (kv hf.out.1 hO) (kX (Nat.le_trans hf.out.2.1 hO.2.2.2.1) (kX (kI hf.out.2.2.1 hO ((jC hf.out).2.2.1 hl) ((jC hf.out).2.2.2.1 hl) cB cB) (kX (kI hf.out.2.2.2.1 hO ((jC hf.out).2.2.1 hl) ((jC hf.out).2.2.2.1 hl) cB cB) (kX TZ (kX TY (kX (fun h9=>nU h9 (show upd l 5 true 5=true from rfl)) (kX (fun h9=>nU h9 (show upd l 5 true 5=true from rfl)) (kC (kA (kX (fun _=>⟨rfl,X1,X2,fun j U=>(F1 j U).imp id (fun h=>Nat.le_trans hf.out.1.2.2.2.1 h),fun j U=>(F2 j U).imp id (fun h=>Nat.le_trans hf.out.1.2.2.2.1 h)⟩) (kX (nU (I 6 rfl)) (kX (nU (I 7 rfl)) (kX (nU (I 8 rfl)) (fun _=>nU (I 11 rfl))))))))))))))) hf.out)
  · have e5:=((jC (jD hf.out)).2.1 (hd 5 rfl)).1
    go_simp;refine hK.out (upd s 105 (.agg (aH x.1 (s 1003) (s 1004)))) _ _ mK (kD (kC (kB (kX (fun _=>rfl) id))) hf.out)
  · have e5:=((jC (jD hf.out)).2.1 (hd 5 rfl)).1
    go_simp;refine hK.out (upd s 106 (.agg (aB x.2.1))) _ _ mK (kD (kC (kB (kA (kX (fun _=>rfl) id)))) hf.out)
  · have e5:=((jC (jD hf.out)).2.1 (hd 5 rfl)).1
    go_simp;refine hK.out (upd s 107 (.bool x.2.2)) _ _ mK (kE (kX (fun _=>rfl) id) hf.out)
  · have e6:=((jC (jD hf.out)).2.2.1 (hd 6 rfl))
    have e5:=((jC (jD hf.out)).2.1 (hd 5 rfl));exact UR
  · have e7:=((jC (jD hf.out)).2.2.2.1 (hd 7 rfl))
    have e5:=((jC (jD hf.out)).2.1 (hd 5 rfl));exact UX
  · have e8:=((jE hf.out).1 (hd 8 rfl))
    go_simp;refine hK.out (upd s 6 (.bool x.2.2)) _ _ wP (kE (kA (fun _=>fun _=>rfl)) hf.out)
theorem EB (c:Ch) (h:Ha) (v1 v2:Value) (lo:Nat) (w:World) (h1:aF w lo v1 c.cells) (h2:aI w lo v2 c.words) (af:0≤h.grow) (ag:h.grow<c.cells.length) (R:eD h.code h.elem=true) (a6:0≤h.nxt∧h.nxt≤2) (hq:(h.pos == 21)=true) (hk:(h.code != 2)=false) :
    ed 268 c h v1 v2 lo w ((bZ c h.grow 2,bF h,true)):=by
  have ao:(h.pos == 16)=false:=by simp at hq ⊢;omega
  have ap:(h.pos == 17)=false:=by simp at hq ⊢;omega
  have aq:(h.pos == 18)=false:=by simp at hq ⊢;omega
  have ar:(h.pos == 19)=false:=by simp at hq ⊢;omega
  have au:(h.pos == 20)=false:=by simp at hq ⊢;omega
  obtain ⟨i,a0⟩:∃ i:Nat,h.grow=(i:Int):=⟨h.grow.toNat,by omega⟩;have hi:i<c.cells.length:=tO;have ai:(0:Int)≤(i:Int):=tO;have aj:(i:Int)<(c.cells.length:Int):=tO;have ab:=h1.ne h2;obtain ⟨a2,q2,rfl,_⟩:=h2.seg;obtain ⟨g,q1,rfl,ae,J,G,ah⟩:=h1.open1 hi;have O1:=aA h1;have O2:=aA h2;have K:g<w.heap.size+1:=tO;have L:g<w.heap.size+1+1:=tO;have M:g<w.heap.size+1+1+1:=tO;have av:g≠w.heap.size:=tO;have aw:g≠w.heap.size+1:=tO
  have ax:g≠w.heap.size+1+1:=tO;have ay:g≠w.heap.size+1+1+1:=tO;have ak:w.heap.size≠g:=tO;have al:w.heap.size+1≠g:=tO;have am:w.heap.size+1+1≠g:=tO;have an:w.heap.size+1+1+1≠g:=tO;have hx:Hid (cellAt c h.grow=c.cells.getD i ⟨0,0,0⟩):=by simp [cellAt,Hid,a0]
  have c0:=G 0 tO;have c1:=G 1 tO;have c2:=G 2 tO;simp only [C3.val,Nat.add_zero] at c0 c1 c2;rw [show bZ c h.grow 2=bZ c i 2 by rw [a0]]
  have e1:=lL c i 2;have P1:=fun W (o:aF W lo (.slice (some ⟨g,0,none⟩) c.cells q1) c.cells)=>aF.setS o hi 2
  rw [← e1] at P1;clear hx G h1 h2 e1;generalize c.cells.getD i ⟨0,0,0⟩=x at *;have o1:=O1.out;have o2:=O2.out;obtain ⟨y0,a1⟩:∃ y0,bF h=y0:=⟨_,rfl⟩;have GR:=aA fun W=>oW h W R a6
  rw [a1] at GR;rw [a1];clear a1 R a6;go_enter func268,ntmps268;go_wp2;go_step3;go_wp2;go_step3;go_wp2;refine wp_loop_rounds 2 ?_;rw [rounds_succ];have P2:=aV (p:=⟨g,i*3,none⟩) o2 (ab g rfl) (.int .i64 2);go_wp2_with fail;rw [rounds_succ];go_wp2_with fail
  go_region_held3 (fun w'=>hp w' w=some (.cells (aH c (.slice (some ⟨g,0,none⟩) c.cells q1) (.slice a2 c.words q2)) 31)∧hp w' (w+1)=some (.cells (aB h) 49))
    (first|(simp [*,go_sem]))
    (first|(go_at_call 271;refine (GR.out _).mono ?_;rintro _ w1 ⟨rfl,F⟩;have ad:Gr g w w1:=gT zG (zf F);have a7:=F.size;(try (simp at a7));have I:=hQ F (b:=w);(first|(simp [go_sem,a4,a8,J,K,L,M] at I)|(simp [go_sem,J,K,L,M] at I));(try clear ac aa);(try clear a4);have a4:=I;clear I;(try clear a8);obtain ⟨ac,aa,a8⟩:=bO a4;have I:=hQ F (b:=w+1);(first|(simp [go_sem,U,Y,J,K,L,M] at I)|(simp [go_sem,J,K,L,M] at I));(try clear a9 a5);(try clear U);have U:=I;clear I;(try clear Y);obtain ⟨a9,a5,Y⟩:=bO U;have I:=hQ F (b:=w+1+1);(first|(simp [go_sem,N,T,J,K,L,M] at I)|(simp [go_sem,J,K,L,M] at I));(try clear a3 Z);(try clear N);have N:=I;clear I;(try clear T);obtain ⟨a3,Z,T⟩:=bO N;have I:=hQ F (b:=w+1+1+1);(first|(simp [go_sem,H,O,J,K,L,M] at I)|(simp [go_sem,J,K,L,M] at I));(try clear X V);(try clear H);have H:=I;clear I;(try clear O);obtain ⟨X,V,O⟩:=bO H;have p1:aF w1 lo (.slice (some ⟨g,0,none⟩) c.cells q1) (bZ c i 2).cells:=own_below (by exact zO (P1 _ o1) o1) F;have p2:aI w1 lo (.slice a2 c.words q2) c.words:=own_below (zO P2 o2) F))
  go_wp2
  try rw [Exit.noGoto_ret]
  refine rE results268 rfl (bN (bZ c i 2) (.slice (some ⟨g,0,none⟩) c.cells q1) (.slice a2 c.words q2) tZ) rfl (aQ y0 (by simp [go_sem, *] <;> first|rfl|simp [a0])) ⟨⟨_,_,rfl,?_,?_,aP _ _,aP _ _⟩,rA (show w.grownBy _ (some g) from zG)⟩
  · show aF _ lo (.slice (some ⟨g,0,none⟩) c.cells q1) (bZ c i 2).cells
    exact zO p1 o1
  · show aI _ lo (.slice a2 c.words q2) c.words
    exact zO p2 o2
theorem EC (c:Ch) (h:Ha) (v1 v2:Value) (lo:Nat) (w:World) (h1:aF w lo v1 c.cells) (h2:aI w lo v2 c.words) (ac:0≤h.grow) (ad:h.grow<c.cells.length) (hq:(h.pos == 22)=true) (hk:(h.code != 2)=false) :
    ed 268 c h v1 v2 lo w ((bZ c h.grow 9,{ h with pos:=16 },true)):=by
  have al:(h.pos == 16)=false:=by simp at hq ⊢;omega
  have am:(h.pos == 17)=false:=by simp at hq ⊢;omega
  have an:(h.pos == 18)=false:=by simp at hq ⊢;omega
  have ao:(h.pos == 19)=false:=by simp at hq ⊢;omega
  have ap:(h.pos == 20)=false:=by simp at hq ⊢;omega
  have aq:(h.pos == 21)=false:=by simp at hq ⊢;omega
  obtain ⟨i,Z⟩:∃ i:Nat,h.grow=(i:Int):=⟨h.grow.toNat,by omega⟩;have hi:i<c.cells.length:=tO;have af:(0:Int)≤(i:Int):=tO;have ag:(i:Int)<(c.cells.length:Int):=tO;have a8:=h1.ne h2;obtain ⟨a2,q2,rfl,_⟩:=h2.seg;obtain ⟨g,q1,rfl,ab,J,G,ae⟩:=h1.open1 hi;have O1:=aA h1;have O2:=aA h2;have K:g<w.heap.size+1:=tO;have L:g<w.heap.size+1+1:=tO;have M:g<w.heap.size+1+1+1:=tO;have ar:g≠w.heap.size:=tO;have au:g≠w.heap.size+1:=tO
  have av:g≠w.heap.size+1+1:=tO;have aw:g≠w.heap.size+1+1+1:=tO;have ah:w.heap.size≠g:=tO;have ai:w.heap.size+1≠g:=tO;have aj:w.heap.size+1+1≠g:=tO;have ak:w.heap.size+1+1+1≠g:=tO;have hx:Hid (cellAt c h.grow=c.cells.getD i ⟨0,0,0⟩):=by simp [cellAt,Hid,Z]
  have c0:=G 0 tO;have c1:=G 1 tO;have c2:=G 2 tO;simp only [C3.val,Nat.add_zero] at c0 c1 c2;rw [show bZ c h.grow 9=bZ c i 9 by rw [Z]]
  have e1:=lL c i 9;have P1:=fun W (o:aF W lo (.slice (some ⟨g,0,none⟩) c.cells q1) c.cells)=>aF.setS o hi 9
  rw [← e1] at P1;clear hx G h1 h2 e1;generalize c.cells.getD i ⟨0,0,0⟩=x at *;have o1:=O1.out;have o2:=O2.out;go_enter func268,ntmps268;go_wp2;go_step3;go_wp2;go_step3;go_wp2;refine wp_loop_rounds 2 ?_;rw [rounds_succ];have P2:=aV (p:=⟨g,i*3,none⟩) o2 (a8 g rfl) (.int .i64 9);go_wp2_with fail
  go_region_held3 (fun w'=>hp w' w=some (.cells (aH c (.slice (some ⟨g,0,none⟩) c.cells q1) (.slice a2 c.words q2)) 31)∧hp w' (w+1)=some (.cells (aB h) 49))
    (first|(simp [*,go_sem]))
    (first|(go_at_call 247;refine (fD _ _ _).mono ?_;rintro _ w1 ⟨rfl,F⟩;have aa:Gr g w w1:=gT zG (zf F);have a4:=F.size;(try (simp at a4));have I:=hQ F (b:=w);(first|(simp [go_sem,a1,a5,J,K,L,M] at I)|(simp [go_sem,J,K,L,M] at I));(try clear a9 a7);(try clear a1);have a1:=I;clear I;(try clear a5);obtain ⟨a9,a7,a5⟩:=bO a1;have I:=hQ F (b:=w+1);(first|(simp [go_sem,T,X,J,K,L,M] at I)|(simp [go_sem,J,K,L,M] at I));(try clear a6 a3);(try clear T);have T:=I;clear I;(try clear X);obtain ⟨a6,a3,X⟩:=bO T;have I:=hQ F (b:=w+1+1);(first|(simp [go_sem,N,R,J,K,L,M] at I)|(simp [go_sem,J,K,L,M] at I));(try clear a0 Y);(try clear N);have N:=I;clear I;(try clear R);obtain ⟨a0,Y,R⟩:=bO N;have I:=hQ F (b:=w+1+1+1);(first|(simp [go_sem,H,O,J,K,L,M] at I)|(simp [go_sem,J,K,L,M] at I));(try clear V U);(try clear H);have H:=I;clear I;(try clear O);obtain ⟨V,U,O⟩:=bO H;have p1:aF w1 lo (.slice (some ⟨g,0,none⟩) c.cells q1) (bZ c i 9).cells:=own_below (by exact zO (P1 _ o1) o1) F;have p2:aI w1 lo (.slice a2 c.words q2) c.words:=own_below (zO P2 o2) F))
  go_wp2
  try rw [Exit.noGoto_ret]
  refine rE results268 rfl (bN (bZ c i 9) (.slice (some ⟨g,0,none⟩) c.cells q1) (.slice a2 c.words q2) tZ) rfl (aQ { h with pos:=16 } (by simp [go_sem, *] <;> first|rfl|simp [Z])) ⟨⟨_,_,rfl,?_,?_,aP _ _,aP _ _⟩,rA (show w.grownBy _ (some g) from zG)⟩
  · show aF _ lo (.slice (some ⟨g,0,none⟩) c.cells q1) (bZ c i 9).cells
    exact zO p1 o1
  · show aI _ lo (.slice a2 c.words q2) c.words
    exact zO p2 o2
theorem ED (c:Ch) (h:Ha) (v1 v2:Value) (lo:Nat) (w:World) (h1:aF w lo v1 c.cells) (h2:aI w lo v2 c.words) (N:(h.code != 2)=true) :
    ed 268 c h v1 v2 lo w (nothing):=by
  have T:=aA fun W=>jJ W lo v1 v2
  generalize nothing=x at *;obtain ⟨a1,q1,a2,q2,rfl,rfl,U,V,b1,b2,O,R,F,J,G,K,H,L,I,M⟩:=Uu h1 h2;clear h1 h2;go_enter func268,ntmps268;go_wp2;go_step3;exact U5
theorem Ci (c:Ch) (h:Ha) (v1 v2:Value) (lo:Nat) (w:World) (h1:aF w lo v1 c.cells) (h2:aI w lo v2 c.words) (hk:(h.code != 2)=false) (N:(h.pos == 16)=false) (O:(h.pos == 17)=false) (R:(h.pos == 18)=false) (U:(h.pos == 19)=false) (V:(h.pos == 20)=false) (X:(h.pos == 21)=false) (Y:(h.pos == 22)=false) (Z:(h.pos == 26)=false) :
    ed 268 c h v1 v2 lo w (nothing):=by
  have T:=aA fun W=>jJ W lo v1 v2
  generalize nothing=x at *;obtain ⟨a1,q1,a2,q2,rfl,rfl,o1,o2,b1,b2,m1,m2,F,J,G,K,H,L,I,M⟩:=Uu h1 h2;clear h1 h2;go_enter func268,ntmps268;go_wp2;go_step3;go_wp2;go_step3;go_wp2;refine wp_loop_rounds 2 ?_;rw [rounds_succ];exact U5
end Go.Proofs.YtffhjmepfojhnaaGreat
