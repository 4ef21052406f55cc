/-
  The program's HandOk, Resting, Called, on hands that are kept whole; no condition.
-/
import Derived.Test.YtffhjmepfojhnaaGreatS09
import Derived.Test.YtffhjmepfojhnaaGreatS01
import Derived.Test.YtffhjmepfojhnaaGreatS05
import Derived.Test.YtffhjmepfojhnaaGreatS08
import Derived.Test.YtffhjmepfojhnaaGreatS04
set_option maxRecDepth 100000
set_option maxHeartbeats 4000000
set_option linter.unusedSimpArgs false
set_option linter.unusedVariables false
namespace Go.Proofs.YtffhjmepfojhnaaGreat
open _root_.Go.Proofs.Tryz
section
open Go.RowKit
attribute [local go_sem ↓] aQ aY aZ aX aN
attribute [local go_sem ↓] o9
theorem jv (h:Ha) (w:World):Calls prog 102 #[.agg (aB h)] w fun r w'=>r=.returned (.bool (bM h))∧Below w w w':=by
 have M:=Lx h
 have T:=aA M
 clear M
 by_cases R:rz h (oJ h)=true
 ·by_cases O:h.pos=0
  ·have U:(h.pos == 0)=true:=by simpa using O
   clear O
   go_enter func102,ntmps102
   go_wp2_with fail
   refine wp_region_held_drew (S:=fun w'=>hp w' w=some (.cells (aB h) 49)∧(∀ o,w'.cell? ⟨w,o,none⟩=(aB h)[o]?)) (by kernel_rfl) (by simp [*,go_sem]) (fun I=>?_)
   refine mT (i:=0) (oi:=⟨some 3,_,_,_,_,_⟩) rfl ?_;(try simp only [bW])
   refine mT (i:=1) (oi:=⟨some 4,_,_,_,_,_⟩) rfl ?_;(try simp only [bW])
   refine wpAnyH_ready (rs:=[2]) (by kernel_rfl) (by simp) ?_
   refine AllReadyH.cons (o:=⟨some 5,_,_,_,_,_⟩) rfl (fun K G=>?_) AllReadyH.nil
   go_simp
   (go_at_call 154;refine aK w zB fun F=>?_;refine (pV h _).mono ?_;rintro _ N ⟨rfl,m⟩;have H:Below w w N:=bT F m;have y:=m.size;(try simp at y);have A:=hQ m (b:=w);(try simp [go_sem] at A);(try clear q u D z);have q:=A;clear A;obtain ⟨u,D,z⟩:=bO q;clear m F)
   refine G.out _ _ ⟨q,u⟩ (fun J=>?_)
   clear G
   (try simp only [bW])
   refine mT (i:=3) (oi:=⟨some 6,_,_,_,_,_⟩) rfl ?_;(try simp only [bW])
   refine mT (i:=4) (oi:=⟨some 7,_,_,_,_,_⟩) rfl ?_;(try simp only [bW])
   refine mT (i:=5) (oi:=⟨some 8,_,_,_,_,_⟩) rfl ?_;(try simp only [bW])
   refine mT (i:=6) (oi:=⟨some 9,_,_,_,_,_⟩) rfl ?_;(try simp only [bW])
   refine mT (i:=7) (oi:=⟨some 10,_,_,_,_,_⟩) rfl ?_;(try simp only [bW])
   refine mT (i:=8) (oi:=⟨some 11,_,_,_,_,_⟩) rfl ?_;(try simp only [bW])
   refine mS (i:=9) (oi:=⟨some 12,_,_,_,_,_⟩) rfl ?_;(try simp only [bW])
   refine mS (i:=10) (oi:=⟨some 13,_,_,_,_,_⟩) rfl ?_;(try simp only [bW])
   refine mS (i:=11) (oi:=⟨some 14,_,_,_,_,_⟩) rfl ?_;(try simp only [bW])
   refine mT (i:=12) (oi:=⟨some 15,_,_,_,_,_⟩) rfl ?_;(try simp only [bW])
   refine mT (i:=13) (oi:=⟨some 16,_,_,_,_,_⟩) rfl ?_;(try simp only [bW])
   refine mT (i:=14) (oi:=⟨some 2,_,_,_,_,_⟩) rfl ?_;(try simp only [bW])
   refine wpAnyH_done (by kernel_rfl) ?_ _
   go_wp2
   go_ret
   exact ⟨dB (by rw [← T.out];simp [R,U]),by exact zB⟩
  ·have U:(h.pos == 0)=false:=by simpa using O
   clear O
   go_enter func102,ntmps102
   go_wp2_with fail
   refine wp_region_held_drew (S:=fun w'=>hp w' w=some (.cells (aB h) 49)∧(∀ o,w'.cell? ⟨w,o,none⟩=(aB h)[o]?)) (by kernel_rfl) (by simp [*,go_sem]) (fun I=>?_)
   refine mT (i:=0) (oi:=⟨some 3,_,_,_,_,_⟩) rfl ?_;(try simp only [bW])
   refine mT (i:=1) (oi:=⟨some 4,_,_,_,_,_⟩) rfl ?_;(try simp only [bW])
   refine wpAnyH_ready (rs:=[2]) (by kernel_rfl) (by simp) ?_
   refine AllReadyH.cons (o:=⟨some 5,_,_,_,_,_⟩) rfl (fun K G=>?_) AllReadyH.nil
   go_simp
   (go_at_call 154;refine aK w zB fun F=>?_;refine (pV h _).mono ?_;rintro _ N ⟨rfl,m⟩;have H:Below w w N:=bT F m;have y:=m.size;(try simp at y);have A:=hQ m (b:=w);(try simp [go_sem] at A);(try clear q u D z);have q:=A;clear A;obtain ⟨u,D,z⟩:=bO q;clear m F)
   refine G.out _ _ ⟨q,u⟩ (fun J=>?_)
   clear G
   (try simp only [bW])
   refine mT (i:=3) (oi:=⟨some 6,_,_,_,_,_⟩) rfl ?_;(try simp only [bW])
   refine mT (i:=4) (oi:=⟨some 7,_,_,_,_,_⟩) rfl ?_;(try simp only [bW])
   refine mT (i:=5) (oi:=⟨some 8,_,_,_,_,_⟩) rfl ?_;(try simp only [bW])
   refine mT (i:=6) (oi:=⟨some 9,_,_,_,_,_⟩) rfl ?_;(try simp only [bW])
   refine mT (i:=7) (oi:=⟨some 10,_,_,_,_,_⟩) rfl ?_;(try simp only [bW])
   refine mT (i:=8) (oi:=⟨some 11,_,_,_,_,_⟩) rfl ?_;(try simp only [bW])
   refine mT (i:=9) (oi:=⟨some 12,_,_,_,_,_⟩) rfl ?_;(try simp only [bW])
   refine mT (i:=10) (oi:=⟨some 13,_,_,_,_,_⟩) rfl ?_;(try simp only [bW])
   refine wpAnyH_ready (rs:=[11]) (by kernel_rfl) (by simp) ?_
   refine AllReadyH.cons (o:=⟨some 14,_,_,_,_,_⟩) rfl (fun K G=>?_) AllReadyH.nil
   go_simp
   (go_at_call 103;refine aK w zB fun F=>?_;refine (rA h.code h.elem _).mono ?_;rintro _ Z ⟨rfl,E⟩;have X:Below w w Z:=bT F E;have L:=E.size;(try simp at L);have A:=hQ E (b:=w);(first|simp [go_sem,q,z] at A|simp [go_sem] at A|skip);(try clear q u D z);have q:=A;clear A;obtain ⟨u,D,z⟩:=bO q;clear E F)
   refine G.out _ _ ⟨q,u⟩ (fun Y=>?_)
   clear G
   (try simp only [bW])
   refine mT (i:=12) (oi:=⟨some 15,_,_,_,_,_⟩) rfl ?_;(try simp only [bW])
   refine mT (i:=13) (oi:=⟨some 16,_,_,_,_,_⟩) rfl ?_;(try simp only [bW])
   refine mT (i:=14) (oi:=⟨some 2,_,_,_,_,_⟩) rfl ?_;(try simp only [bW])
   refine wpAnyH_done (by kernel_rfl) ?_ _
   go_wp2
   go_ret
   exact ⟨dB (by rw [← T.out];simp [R,U]),by exact zB⟩
 ·have V:rz h (oJ h)=false:=by simpa using R
  clear R
  focus
   go_enter func102,ntmps102
   go_wp2_with fail
   refine wp_region_held_drew (S:=fun w'=>hp w' w=some (.cells (aB h) 49)∧(∀ o,w'.cell? ⟨w,o,none⟩=(aB h)[o]?)) (by kernel_rfl) (by simp [*,go_sem]) (fun I=>?_)
   refine mT (i:=0) (oi:=⟨some 3,_,_,_,_,_⟩) rfl ?_;(try simp only [bW])
   refine mT (i:=1) (oi:=⟨some 4,_,_,_,_,_⟩) rfl ?_;(try simp only [bW])
   refine wpAnyH_ready (rs:=[2]) (by kernel_rfl) (by simp) ?_
   refine AllReadyH.cons (o:=⟨some 5,_,_,_,_,_⟩) rfl (fun K G=>?_) AllReadyH.nil
   go_simp
   (go_at_call 154;refine aK w zB fun F=>?_;refine (pV h _).mono ?_;rintro _ N ⟨rfl,m⟩;have H:Below w w N:=bT F m;have y:=m.size;(try simp at y);have A:=hQ m (b:=w);(try simp [go_sem] at A);(try clear q u D z);have q:=A;clear A;obtain ⟨u,D,z⟩:=bO q;clear m F)
   refine G.out _ _ ⟨q,u⟩ (fun J=>?_)
   clear G
   (try simp only [bW])
   refine mT (i:=3) (oi:=⟨some 6,_,_,_,_,_⟩) rfl ?_;(try simp only [bW])
   refine mT (i:=4) (oi:=⟨some 7,_,_,_,_,_⟩) rfl ?_;(try simp only [bW])
   refine mS (i:=5) (oi:=⟨some 8,_,_,_,_,_⟩) rfl ?_;(try simp only [bW])
   refine mS (i:=6) (oi:=⟨some 9,_,_,_,_,_⟩) rfl ?_;(try simp only [bW])
   refine mS (i:=7) (oi:=⟨some 10,_,_,_,_,_⟩) rfl ?_;(try simp only [bW])
   refine mS (i:=8) (oi:=⟨some 11,_,_,_,_,_⟩) rfl ?_;(try simp only [bW])
   refine mS (i:=9) (oi:=⟨some 12,_,_,_,_,_⟩) rfl ?_;(try simp only [bW])
   refine mS (i:=10) (oi:=⟨some 13,_,_,_,_,_⟩) rfl ?_;(try simp only [bW])
   refine mS (i:=11) (oi:=⟨some 14,_,_,_,_,_⟩) rfl ?_;(try simp only [bW])
   refine mS (i:=12) (oi:=⟨some 15,_,_,_,_,_⟩) rfl ?_;(try simp only [bW])
   refine mT (i:=13) (oi:=⟨some 16,_,_,_,_,_⟩) rfl ?_;(try simp only [bW])
   refine mT (i:=14) (oi:=⟨some 2,_,_,_,_,_⟩) rfl ?_;(try simp only [bW])
   refine wpAnyH_done (by kernel_rfl) ?_ _
   go_wp2
   go_ret
   exact ⟨dB (by rw [← T.out];simp [V]),by exact zB⟩
end
section
open Go.RowKit
attribute [local go_sem ↓] aQ aY aZ aX aN
attribute [local go_sem ↓] o9
theorem iF (x o:Int) (w:World):Calls prog 48 #[.int .i64 x,.int .i64 o] w fun r w'=>r=.returned (.agg (aB (aV x o)))∧Below w w w':=by
 go_enter func48,ntmps48
 go_wp2
 refine bodyPost_ret (jy results48 rfl (aJ (aV x o) (by simp [go_sem] <;> rfl))) rfl ⟨rfl,by exact zB⟩
theorem CS (k e:Int) (w:World):Calls prog 104 #[.agg #[.int .i64 k,.int .i64 e]] w fun r w'=>r=.returned (.int .i64 (if k == 1 then 1 else 9))∧Below w w w':=by
 go_enter func104,ntmps104
 go_wp2
 all_goals go_ret
 all_goals exact ⟨ou (by simp_all),by exact zB⟩
theorem LC {k e:Int} (h:eB k e=true):begun k e 0=⟨if k == 1 then 1 else 9,k,e,0,0,0,0,0,0,0,0,0,0,0⟩:=by
 have m:k=1∨k=2:=by simp [eB] at h;omega
 rcases m with rfl|rfl <;> rfl
theorem wu (h:Ha) (k e:Int) (w:World):Calls prog 52 #[.agg (aB h),.agg #[.int .i64 k,.int .i64 e]] w fun r w'=>r=.returned (.tuple #[.agg (aB (called h k e).1),.int .i64 (called h k e).2])∧Below w w w':=by
 by_cases G:bM h=true
 ·by_cases h1:h.pos=0
  ·by_cases I:eB k e=true
   ·rw [show called h k e=(begun k e 0,0) by simp [called,G,h1,I]]
    rw [LC I]
    have N:=CS k e
    generalize (if k == 1 then (1:Int) else 9)=m at *
    have n1:(h.pos != 0)=false:=by simp [h1]
    clear h1
    go_enter func52,ntmps52
    go_wp2_with fail;refine aK w zB fun z=>?_;refine (jv h _).mono ?_;rintro _ L ⟨rfl,q⟩;obtain ⟨D,y,u⟩:=uW z q (b:=w);(try simp at y);(try simp [go_sem] at u);replace F:=ql u;clear u q z
    rw [G]
    go_wp2_with fail;refine aK w zB fun z=>?_;refine (rA k e _).mono ?_;rintro _ O ⟨rfl,A⟩;obtain ⟨J,E,u⟩:=uW z A (b:=w);(try simp at E);(first|simp [go_sem,F] at u|simp [go_sem] at u|skip);replace F:=ql u;clear u A z
    rw [I]
    go_wp2_with fail
    go_region_held3 (fun w'=>w'.cell? ⟨w+1,0,none⟩=some (.int .i64 k)∧w'.cell? ⟨w+1,1,none⟩=some (.int .i64 e))
     (first|(simp [*,go_sem]))
     (first|(go_at_call 104;refine aK w zB fun z=>?_;refine (N _).mono ?_;rintro _ R ⟨rfl,H⟩;obtain ⟨M,K,u⟩:=uW z H (b:=w);(try simp at K);(first|simp [go_sem,F] at u|simp [go_sem] at u|skip);replace F:=ql u;clear u H z))
    go_wp2
    exact bodyPost_ret (j5 results52 rfl (aJ ⟨m,k,e,0,0,0,0,0,0,0,0,0,0,0⟩ tZ)) rfl ⟨rfl,by exact zB⟩
   ·have h2':eB k e=false:=by simpa using I
    rw [show called h k e=(h,2) by simp [called,G,h1,h2']]
    have n1:(h.pos != 0)=false:=by simp [h1]
    clear h1 I
    go_enter func52,ntmps52
    go_wp2_with fail;refine aK w zB fun z=>?_;refine (jv h _).mono ?_;rintro _ L ⟨rfl,q⟩;obtain ⟨D,y,u⟩:=uW z q (b:=w);(try simp at y);(try simp [go_sem] at u);replace F:=ql u;clear u q z
    rw [G]
    go_wp2_with fail;refine aK w zB fun z=>?_;refine (rA k e _).mono ?_;rintro _ O ⟨rfl,A⟩;obtain ⟨J,E,u⟩:=uW z A (b:=w);(try simp at E);(first|simp [go_sem,F] at u|simp [go_sem] at u|skip);replace F:=ql u;clear u A z
    rw [h2']
    go_wp2
    exact bodyPost_ret (j5 results52 rfl (aJ h tY)) rfl ⟨rfl,by exact zB⟩
  ·rw [show called h k e=(h,1) by simp [called,G,h1]]
   have n1:(h.pos != 0)=true:=by simpa using h1
   clear h1
   go_enter func52,ntmps52
   go_wp2_with fail;refine aK w zB fun z=>?_;refine (jv h _).mono ?_;rintro _ L ⟨rfl,q⟩;obtain ⟨D,y,u⟩:=uW z q (b:=w);(try simp at y);(try simp [go_sem] at u);replace F:=ql u;clear u q z
   rw [G]
   go_wp2
   exact bodyPost_ret (j5 results52 rfl (aJ h tY)) rfl ⟨rfl,by exact zB⟩
 ·have h0':bM h=false:=by simpa using G
  rw [show called h k e=(Ha.zero,3) by simp [called,h0']]
  clear G
  go_enter func52,ntmps52
  go_wp2_with fail;refine aK w zB fun z=>?_;refine (jv h _).mono ?_;rintro _ L ⟨rfl,q⟩;obtain ⟨D,y,u⟩:=uW z q (b:=w);(try simp at y);(try simp [go_sem] at u);replace F:=ql u;clear u q z
  rw [h0']
  go_wp2
  exact bodyPost_ret (j5 results52 rfl (aJ Ha.zero tY)) rfl ⟨rfl,by exact zB⟩
end
section
open Go.RowKit
attribute [local go_sem ↓] aQ aY aZ aX aN
theorem Jf {hs:List Ha} {now:Int} {k:Nat} {h:Ha} (r:k<hs.length) (q:hs.getD k Ha.zero=h) (e:(hs.take k).all (gH now)=true) (m:gH now h=true):(hs.take (k+1)).all (gH now)=true:=by
 rw [iM _ k Ha.zero r,q,List.all_append,e];simp [m]
theorem LD {hs:List Ha} {now:Int} {k:Nat} {h:Ha} (m:k<hs.length) (q:hs.getD k Ha.zero=h) (e:gH now h=false):hs.all (gH now)=false:=by
 rw [List.all_eq_false]
 refine ⟨hs[k],List.getElem_mem m,?_⟩
 rw [← q] at e
 simpa [List.getD,List.getElem?_eq_getElem m] using e
def oL (hs:List Ha) (now:Int):Bool:=decide (1≤hs.length) && (decide (hs.length≤6) && hs.all (gH now))
theorem O9 {now:Int} {h:Ha} (e:bM h=true):Value.bool (decide (now<h.beg))=.bool (!gH now h):=by
 by_cases m:now<h.beg <;> simp [gH,e,m] <;> omega
theorem OA {now:Int} {h:Ha} (e:bM h=false):Value.bool true=.bool (!gH now h):=by simp [gH,e]
theorem CU (hs:List Ha) (now:Int) (B:Nat) (d:Option Addr) (r:Nat) (w:World) (x6:w.cell? ⟨B,6,none⟩=some (.slice d hs.length r)) (x8:w.cell? ⟨B,8,none⟩=some (.int .i64 now)) (lB:B<w.heap.size) (h3:pF w w d hs) (m:hs.length≤1099511627776) :
  Calls prog 99 #[.pointer (some ⟨B,0,none⟩)] w fun r w'=>r=.returned (.bool (oL hs now))∧Below w w w':=by
 by_cases i2:1≤hs.length
 case neg =>
  have g1:decide ((hs.length:Int)<1)=true:=by simp;omega
  have G:oL hs now=false:=by simp [oL];omega
  rw [G]
  clear G i2
  go_enter func99,ntmps99
  go_wp2
  go_ret
  exact ⟨rfl,by exact zB⟩
 have g1:decide ((hs.length:Int)<1)=false:=by simp;omega
 by_cases i3:hs.length≤6
 case neg =>
  have g2:decide (6<(hs.length:Int))=true:=by simp;omega
  have G:oL hs now=false:=by simp [oL];omega
  rw [G]
  clear G i3
  go_enter func99,ntmps99
  go_wp2
  go_ret
  exact ⟨rfl,by exact zB⟩
 have g2:decide (6<(hs.length:Int))=false:=by simp;omega
 have G:oL hs now=hs.all (gH now):=by simp [oL,i2,i3]
 rw [G]
 clear G
 obtain ⟨R,o3,rfl,V,X⟩:∃ b o,d=some ⟨b,o,none⟩∧b<w.heap.size∧Hid (∀ i j,i<hs.length→j<14→w.cell? ⟨b,o+i*14+j,none⟩=some (dY hs i j)):=by
  rcases h3 with h0|h0
  ·exact absurd h0 tO
  ·exact h0
 have I2:=aA i2
 clear h3 i2
 go_enter func99,ntmps99
 go_wp2_with fail
 go_loopw [24] (fun i wr=>∃ k:Nat,k≤hs.length∧i=.int .i64 k∧Hid ((hs.take k).all (gH now)=true)∧Below w w wr) (fun i _=>hs.length - (intOf i).toNat)
 case atStart=>exact ⟨0,Nat.zero_le _,rfl,rfl,by exact zB⟩
 case round =>
  obtain ⟨k,hk,rfl,L,T⟩:=hrel
  by_cases M:k<hs.length
  ·have cc:=fun j hj=>X.out k j M hj
   simp only [dY] at cc
   generalize Y:hs.getD k Ha.zero=A at cc
   have HC:=aA Y
   clear Y
   have a0:∀ W:World,hp W R=hp w R→(jU (.pointer (some ⟨R,o3+k*14,none⟩))).run prog W=.ok (.agg (aB A)) W:=fun W e=>jh A fun j hj=>by rw [← cc j hj];exact World.cell?_of_block e
   clear cc
   have z3:hp wr R=hp w R:=T.block R V
   have y8:=(T.cell (p:=⟨B,8,none⟩) lB).trans x8
   have a2:(0:Int)≤(k:Int):=by omega
   have a3:(k:Int)<(hs.length:Int):=by omega
   go_wp2_with fail
   generalize N:World.alloc wr _=O
   have Z:hp O wr=some (.cells (aB A) 49):=by rw [← N];exact heap_alloc_new _ _
   have J:Below wr wr O:=by rw [← N];exact aS _ _
   clear N
   have y5:=(J.cell (p:=⟨B,8,none⟩) (by have:=T.size;simp;omega)).trans y8
   clear y8
   have y8:=y5
   clear y5
   have a4:B<O.heap.size:=by have:=T.size;have:=J.size;omega
   clear a0 z3 a2 a3 X V
   refine iT [[],[0],[0,1],[0,1,2],[0,1,2,3],[0,1,2,3,4],[0,1,2,3],[0,1,2,3,6],[0,1,2,3,6,7],[0,1,2,3,6,7,8],qB [8,9],qB [8,9,10]] [28,29,30,31,32,33,34,35,36,37,38,39] (fun l s wx=>(Below O O wx)∧(l 0=true→s 28=.agg (aB A))∧(l 1=true→s 29=.bool (bM A))∧(l 2=true→s 30=.bool (!bM A))∧(l 3=true→s 31=.bool (!bM A))∧(l 4=true→bM A=true→s 32=.pointer (some ⟨wr,11,none⟩))∧(l 5=true→bM A=true→s 33=.int .i64 A.beg)∧(l 6=true→bM A=true→s 34=.pointer (some ⟨B,0,none⟩))∧(l 7=true→bM A=true→s 35=.pointer (some ⟨B,0,none⟩))∧(l 8=true→bM A=true→s 36=.pointer (some ⟨B,8,none⟩))∧(l 9=true→bM A=true→s 37=.int .i64 now)∧(l 10=true→bM A=true→s 38=.bool (decide (now<A.beg)))∧(l 11=true→s 39=.bool (!gH now A))) (fun s=>⟨(Below.refl _ _).drew,nB,nB,nB,nB,nB,nB,nB,nB,nB,nB,nB,nB⟩) ?_ ?_
   refine ⟨?_,?_,?_,?_,?_,?_,?_,?_,?_,?_,?_,?_,trivial⟩;iterate 12 (intro l s wx hl E H q K D;rotate_left)
   ·intro l s w6 F q
    have ec:=(jC (jD q)) (F 11 rfl)
    have a1:Below O O w6:=q.1
    simp only [ec]
    clear ec q F
    have U:Below w w w6:=bT T (J.trans (a1.mono J.size))
    cases u:gH now A with
    | true =>
     go_wp2
     go_roundw
     case rel=>exact ⟨k+1,by omega,by go_num,Jf M HC.out L.out u,U⟩
     case measure=>simp [intOf];omega
    | false =>
     go_wp2
     go_ret
     exact ⟨dB (LD M HC.out u).symm,U⟩
   ·have z:=eP Z q.out.1
    go_simp
    refine D.out (upd s 28 (.agg (aB A))) _ _ (by simp [aC] <;> rfl) (kA (kX (fun _=>rfl) id) q.out)
   ·have G:=(q.out.2.1 (E 0 rfl))
    go_simp
    go_at_call 102
    refine (jv A _).mono ?_
    rintro _ wy ⟨rfl,hE⟩
    refine D.out (upd s 29 (.bool (bM A))) _ _ (by simp [aC,G] <;> rfl) (kX (bT q.out.1 hE) (kA (kX (fun _=>rfl) (kX (nU (H 2 rfl)) (kX (nU (H 3 rfl)) (kX (nU (H 4 rfl)) (kX (nU (H 5 rfl)) (kX (nU (H 6 rfl)) (kX (nU (H 7 rfl)) (kX (nU (H 8 rfl)) (kX (nU (H 9 rfl)) (kX (nU (H 10 rfl)) (fun _=>nU (H 11 rfl))))))))))))) q.out)
   ·have e1:=(q.out.2.2.1 (E 1 rfl))
    go_simp
    refine D.out (upd s 30 (.bool (!bM A))) _ _ (by simp [aC,e1] <;> rfl) (kB (kA (kX (fun _=>rfl) id)) q.out)
   ·have e2:=(q.out.2.2.2.1 (E 2 rfl))
    go_simp
    refine D.out (upd s 31 (.bool (!bM A))) _ _ (by simp [aC,e2] <;> rfl) (kC (kX (fun _=>rfl) id) q.out)
   ·have y:=(q.out.2.2.2.2.1 (E 3 rfl))
    cases u:(bM A) with
    | true =>
     rw [u] at y
     go_simp
     refine D.out (upd s 32 (.pointer (some ⟨wr,11,none⟩))) _ _ (by simp [aC,y] <;> rfl) (kC (kA (kX (fun _ _=>rfl) id)) q.out)
    | false =>
     rw [u] at y
     go_simp
     refine D.out (upd s 32 (undef)) _ _ (by simp [aC,y] <;> rfl) (kC (kA (kX (fun _ h=>Bool.noConfusion (h.symm.trans u)) id)) q.out)
   ·have y:=(q.out.2.2.2.2.1 (E 3 rfl))
    cases u:(bM A) with
    | true =>
     rw [u] at y
     have e4:=((jC q.out).2.1 (E 4 rfl)) u
     have z:=(bO (eP Z q.out.1)).1 11
     go_simp
     refine D.out (upd s 33 (.int .i64 A.beg)) _ _ (by simp [aC,y,e4] <;> rfl) (kC (kB (kX (fun _ _=>rfl) id)) q.out)
    | false =>
     rw [u] at y
     go_simp
     refine D.out (upd s 33 (undef)) _ _ (by simp [aC,y] <;> rfl) (kC (kB (kX (fun _ h=>Bool.noConfusion (h.symm.trans u)) id)) q.out)
   ·have y:=(q.out.2.2.2.2.1 (E 3 rfl))
    cases u:(bM A) with
    | true =>
     rw [u] at y
     go_simp
     refine D.out (upd s 34 (.pointer (some ⟨B,0,none⟩))) _ _ (by simp [aC,y] <;> rfl) (kC (kB (kA (kX (fun _ _=>rfl) id))) q.out)
    | false =>
     rw [u] at y
     go_simp
     refine D.out (upd s 34 (undef)) _ _ (by simp [aC,y] <;> rfl) (kC (kB (kA (kX (fun _ h=>Bool.noConfusion (h.symm.trans u)) id))) q.out)
   ·have y:=(q.out.2.2.2.2.1 (E 3 rfl))
    cases u:(bM A) with
    | true =>
     rw [u] at y
     have e6:=((jC q.out).2.2.2.1 (E 6 rfl)) u
     go_simp
     refine D.out (upd s 35 (.pointer (some ⟨B,0,none⟩))) _ _ (by simp [aC,y,e6] <;> rfl) (kD (kX (fun _ _=>rfl) id) q.out)
    | false =>
     rw [u] at y
     go_simp
     refine D.out (upd s 35 (undef)) _ _ (by simp [aC,y] <;> rfl) (kD (kX (fun _ h=>Bool.noConfusion (h.symm.trans u)) id) q.out)
   ·have y:=(q.out.2.2.2.2.1 (E 3 rfl))
    cases u:(bM A) with
    | true =>
     rw [u] at y
     have e7:=((jD q.out).1 (E 7 rfl)) u
     go_simp
     refine D.out (upd s 36 (.pointer (some ⟨B,8,none⟩))) _ _ (by simp [aC,y,e7] <;> rfl) (kD (kA (kX (fun _ _=>rfl) id)) q.out)
    | false =>
     rw [u] at y
     go_simp
     refine D.out (upd s 36 (undef)) _ _ (by simp [aC,y] <;> rfl) (kD (kA (kX (fun _ h=>Bool.noConfusion (h.symm.trans u)) id)) q.out)
   ·have y:=(q.out.2.2.2.2.1 (E 3 rfl))
    cases u:(bM A) with
    | true =>
     rw [u] at y
     have e8:=((jD q.out).2.1 (E 8 rfl)) u
     have z:=((q.out.1).cell (p:=⟨B,8,none⟩) tO).trans y8
     go_simp
     refine D.out (upd s 37 (.int .i64 now)) _ _ (by simp [aC,y,e8] <;> rfl) (kD (kB (kX (fun _ _=>rfl) id)) q.out)
    | false =>
     rw [u] at y
     go_simp
     refine D.out (upd s 37 (undef)) _ _ (by simp [aC,y] <;> rfl) (kD (kB (kX (fun _ h=>Bool.noConfusion (h.symm.trans u)) id)) q.out)
   ·have y:=(q.out.2.2.2.2.1 (E 3 rfl))
    cases u:(bM A) with
    | true =>
     rw [u] at y
     have e5:=((jC q.out).2.2.1 (E 5 rfl)) u
     have e9:=((jD q.out).2.2.1 (E 9 rfl)) u
     go_simp
     refine D.out (upd s 38 (.bool (decide (now<A.beg)))) _ _ (by simp [aC,y,e5,e9] <;> rfl) (kD (kB (kA (kX (fun _ _=>rfl) id))) q.out)
    | false =>
     rw [u] at y
     go_simp
     refine D.out (upd s 38 (undef)) _ _ (by simp [aC,y] <;> rfl) (kD (kB (kA (kX (fun _ h=>Bool.noConfusion (h.symm.trans u)) id))) q.out)
   ·have y:=(q.out.2.2.2.2.1 (E 3 rfl))
    have I:=((jD q.out).2.2.2.1 (E 10 rfl))
    cases u:(bM A) with
    | true =>
     rw [u] at y
     replace I:=I u
     go_simp
     refine D.out (upd s 39 (.bool (decide (now<A.beg)))) _ _ (by simp [aC,y,I] <;> rfl) (kD (kC (fun _=>fun _=>by rw [show (upd s 39 (.bool (decide (now<A.beg)))) 39=.bool (decide (now<A.beg)) from rfl,O9 u])) q.out)
    | false =>
     clear I
     rw [u] at y
     go_simp
     refine D.out (upd s 39 (.bool true)) _ _ (by simp [aC,y] <;> rfl) (kD (kC (fun _=>fun _=>by rw [show (upd s 39 (.bool true)) 39=.bool true from rfl,OA u])) q.out)
  ·have:k=hs.length:=by omega
   subst this
   have h1:=L.out
   rw [List.take_length] at h1
   go_wp2
   go_ret
   exact ⟨dB h1.symm,T⟩
end
section
open Go.RowKit
theorem Fh {ds:List De} {n:Nat} {now:Int} {k:Nat} {h:De} (r:k<ds.length) (q:ds.getD k De.zero=h) (e:(ds.take k).all (jw n now)=true) (m:jw n now h=true):(ds.take (k+1)).all (jw n now)=true:=by
 rw [iM _ k De.zero r,q,List.all_append,e];simp [m]
theorem Jg {ds:List De} {n:Nat} {now:Int} {k:Nat} {h:De} (m:k<ds.length) (q:ds.getD k De.zero=h) (e:jw n now h=false):ds.all (jw n now)=false:=by
 rw [List.all_eq_false]
 refine ⟨ds[k],List.getElem_mem m,?_⟩
 rw [← q] at e
 simpa [List.getD,List.getElem?_eq_getElem m] using e
def rF (ds:List De) (n:Nat) (now:Int):Bool:=decide (ds.length≤1000) && ds.all (jw n now)
theorem Hz {a:Bool} {b:Bool} (e:a=true):Value.bool (!b)=.bool (!(a && b)):=by rw [e];rfl
theorem H5 {a:Bool} {b:Bool} (e:a=false):Value.bool true=.bool (!(a && b)):=by rw [e];rfl
theorem CV (ds:List De) (n:Nat) (now:Int) (B:Nat) (d e:Option Addr) (r s:Nat) (w:World) (x6:w.cell? ⟨B,6,none⟩=some (.slice d n r)) (x7:w.cell? ⟨B,7,none⟩=some (.slice e ds.length s)) (x8:w.cell? ⟨B,8,none⟩=some (.int .i64 now)) (lB:B<w.heap.size) (h4:pG w w e ds) (m:ds.length≤1099511627776) (mn:n≤1099511627776) :
  Calls prog 100 #[.pointer (some ⟨B,0,none⟩)] w fun r w'=>r=.returned (.bool (rF ds n now))∧Below w w w':=by
 by_cases i3:ds.length≤1000
 case neg =>
  have g2:decide (1000<(ds.length:Int))=true:=by simp;omega
  have e0:rF ds n now=false:=by simp [rF];omega
  rw [e0]
  clear e0 i3
  go_enter func100,ntmps100
  go_wp2
  go_ret
  exact ⟨rfl,by exact zB⟩
 have g2:decide (1000<(ds.length:Int))=false:=by simp;omega
 have e0:rF ds n now=ds.all (jw n now):=by simp [rF,i3]
 rw [e0]
 clear e0
 have H4:=aA h4
 clear h4
 go_enter func100,ntmps100
 go_wp2_with fail
 go_loopw [16] (fun i wr=>∃ k:Nat,k≤ds.length∧i=.int .i64 k∧Hid ((ds.take k).all (jw n now)=true)∧Below w w wr) (fun i _=>ds.length - (intOf i).toNat)
 case atStart=>exact ⟨0,Nat.zero_le _,rfl,rfl,by exact zB⟩
 case round =>
  obtain ⟨k,hk,rfl,a0,hB⟩:=hrel
  by_cases a1:k<ds.length
  ·obtain h0|⟨b4,o4,rfl,a4,a5⟩:=H4.out
   ·omega
   have Z:=fun j hj=>(hB.cell (p:=⟨b4,o4+k*7+j,none⟩) a4).trans (a5 k j a1 hj)
   have c0:=Z 0 tO
   have c1:=Z 1 tO
   have c2:=Z 2 tO
   have c3:=Z 3 tO
   have c4:=Z 4 tO
   have c5:=Z 5 tO
   have c6:=Z 6 tO
   clear Z a5
   simp only [p8] at c0 c1 c2 c3 c4 c5 c6
   generalize a6:ds.getD k De.zero=M at c0 c1 c2 c3 c4 c5 c6
   simp [gM,Array.getD] at c0 c1 c2 c3 c4 c5 c6
   have HC:=aA a6
   clear a6
   have y6:=(hB.cell (p:=⟨B,6,none⟩) lB).trans x6
   have y8:=(hB.cell (p:=⟨B,8,none⟩) lB).trans x8
   have b0:(0:Int)≤(k:Int):=by omega
   have b1:(k:Int)<(ds.length:Int):=by omega
   go_wp2_with fail
   generalize a2:World.alloc wr _=w5
   have O:hp w5 wr=some (.cells #[M.task,M.code,M.elem,M.beg,M.fin,M.reply,M.out] 44):=by rw [← a2];exact heap_alloc_new _ _
   have R:Below wr wr w5:=by rw [← a2];exact aS _ _
   clear a2
   have b2:=hB.size
   replace y6:=(R.cell (p:=⟨B,6,none⟩) (by simp;omega)).trans y6
   replace y8:=(R.cell (p:=⟨B,8,none⟩) (by simp;omega)).trans y8
   have b3:B<w5.heap.size:=by have:=R.size;omega
   obtain ⟨D,a7⟩:∃ q,Hid (eH n M.task=q):=⟨_,rfl⟩
   obtain ⟨H,a8⟩:∃ q,Hid (dA M.beg 0 now=q):=⟨_,rfl⟩
   obtain ⟨L,a9⟩:∃ q,Hid (dA M.fin 0 now=q):=⟨_,rfl⟩
   obtain ⟨N,aa⟩:∃ q,Hid (kM M.code M.elem M.reply=q):=⟨_,rfl⟩
   obtain ⟨q4,ab⟩:∃ q,Hid (dA M.out 0 999=q):=⟨_,rfl⟩
   have hQ:jw n now M=((((D && H) && L) && N) && q4):=by simp only [jw,a7.out,a8.out,a9.out,aa.out,ab.out];cases D <;> cases H <;> cases L <;> cases N <;> cases q4 <;> rfl
   have HQ:=aA hQ
   clear hQ c0 c1 c2 c3 c4 c5 c6 b0 b1 a4
   refine iT [[],[],[1],[0,1,2],[0,1,2,3],[0,1,2,3,4],[0,1,2,3,4,5],[0,1,2,3,4,5,6],[0,1,2,3,4,5],[0,1,2,3,4,5,8],[0,1,2,3,4,5,8,9],[0,1,2,3,4,5,8,9,10],qB [8,9,10,11],qB [8,9,10,11,12],qB [8,9,10,11,12,13],qB [8,9,10,11,12,13,14],qC [],qC [16],qC [],qC [18],qC [18,19],qC [18,19,20],qC [16,17,18,19,20,21],qC [16,17,18,19,20,21,22],qD [],qD [24],qD [24,25],qD [24,25,26],qD [24,25],qD [24,25,28],qD [24,25,26,27,28,29],qD [24,25,26,27,28,29,30],qE [],qE [32],qE [32,33],qE [32,33,34],qE [32,33,34,35],qE [32,33,34,35,36],qE [32,33,34,35,36,37]] [20,21,22,23,24,25,26,27,28,29,30,31,32,33,34,35,36,37,38,39,40,41,42,43,44,45,46,47,48,49,50,51,52,53,54,55,56,57,58] (fun l s wx=>(Below w5 w5 wx)∧(l 0=true→s 20=.pointer (some ⟨B,0,none⟩))∧(l 1=true→s 21=.pointer (some ⟨wr,0,none⟩))∧(l 2=true→s 22=.int .i64 M.task)∧(l 3=true→s 23=.bool D)∧(l 4=true→s 24=.bool (!D))∧(l 5=true→s 25=.bool (!D))∧(l 6=true→D=true→s 26=.pointer (some ⟨wr,3,none⟩))∧(l 7=true→D=true→s 27=.int .i64 M.beg)∧(l 8=true→D=true→s 28=.pointer (some ⟨B,0,none⟩))∧(l 9=true→D=true→s 29=.pointer (some ⟨B,0,none⟩))∧(l 10=true→D=true→s 30=.pointer (some ⟨B,8,none⟩))∧(l 11=true→D=true→s 31=.int .i64 now)∧(l 12=true→D=true→s 32=.bool H)∧(l 13=true→D=true→s 33=.bool (!H))∧(l 14=true→s 34=.bool (!(D && H)))∧(l 15=true→s 35=.bool (!(D && H)))∧(l 16=true→(D && H)=true→s 36=.pointer (some ⟨wr,4,none⟩))∧(l 17=true→(D && H)=true→s 37=.int .i64 M.fin)∧(l 18=true→(D && H)=true→s 38=.pointer (some ⟨B,0,none⟩))∧(l 19=true→(D && H)=true→s 39=.pointer (some ⟨B,0,none⟩))∧(l 20=true→(D && H)=true→s 40=.pointer (some ⟨B,8,none⟩))∧(l 21=true→(D && H)=true→s 41=.int .i64 now)∧(l 22=true→(D && H)=true→s 42=.bool L)∧(l 23=true→(D && H)=true→s 43=.bool (!L))∧(l 24=true→s 44=.bool (!((D && H) && L)))∧(l 25=true→s 45=.bool (!((D && H) && L)))∧(l 26=true→((D && H) && L)=true→s 46=.pointer (some ⟨wr,1,none⟩))∧(l 27=true→((D && H) && L)=true→s 47=.agg #[M.code,M.elem])∧(l 28=true→((D && H) && L)=true→s 48=.pointer (some ⟨wr,5,none⟩))∧(l 29=true→((D && H) && L)=true→s 49=.int .i64 M.reply)∧(l 30=true→((D && H) && L)=true→s 50=.bool N)∧(l 31=true→((D && H) && L)=true→s 51=.bool (!N))∧(l 32=true→s 52=.bool (!(((D && H) && L) && N)))∧(l 33=true→s 53=.bool (!(((D && H) && L) && N)))∧(l 34=true→(((D && H) && L) && N)=true→s 54=.pointer (some ⟨wr,6,none⟩))∧(l 35=true→(((D && H) && L) && N)=true→s 55=.int .i64 M.out)∧(l 36=true→(((D && H) && L) && N)=true→s 56=.bool q4)∧(l 37=true→(((D && H) && L) && N)=true→s 57=.bool (!q4))∧(l 38=true→s 58=.bool (!((((D && H) && L) && N) && q4)))) (fun s=>⟨(Below.refl _ _).drew,nB,nB,nB,nB,nB,nB,nB,nB,nB,nB,nB,nB,nB,nB,nB,nB,nB,nB,nB,nB,nB,nB,nB,nB,nB,nB,nB,nB,nB,nB,nB,nB,nB,nB,nB,nB,nB,nB,nB⟩) ?_ ?_
   refine ⟨?_,?_,?_,?_,?_,?_,?_,?_,?_,?_,?_,?_,?_,?_,?_,?_,?_,?_,?_,?_,?_,?_,?_,?_,?_,?_,?_,?_,?_,?_,?_,?_,?_,?_,?_,?_,?_,?_,?_,trivial⟩;iterate 39 (intro l s wx hl G hn y K F;rotate_left)
   ·intro l s w6 T y
    have ec:=(jC (jE (jE y))).2.2.2 (T 38 rfl)
    have az:Below w5 w5 w6:=y.1
    simp only [ec]
    clear ec y T
    have a3:Below w w w6:=bT hB (R.trans (az.mono R.size))
    cases u:((((D && H) && L) && N) && q4) with
    | true =>
     go_wp2
     go_roundw
     case rel=>exact ⟨k+1,by omega,by go_num,Fh a1 HC.out a0.out (HQ.out.trans u),a3⟩
     case measure=>simp [intOf];omega
    | false =>
     go_wp2
     go_ret
     exact ⟨dB (Jg a1 HC.out (HQ.out.trans u)).symm,a3⟩
   ·go_simp
    refine F.out (upd s 20 (.pointer (some ⟨B,0,none⟩))) _ _ (by simp [aC] <;> rfl) (kA (kX (fun _=>rfl) id) y.out)
   ·go_simp
    refine F.out (upd s 21 (.pointer (some ⟨wr,0,none⟩))) _ _ (by simp [aC] <;> rfl) (kB (kX (fun _=>rfl) id) y.out)
   ·have e1:=(y.out.2.2.1 (G 1 rfl))
    have z:=(bO (eP O y.out.1)).1 0
    go_simp
    refine F.out (upd s 22 (.int .i64 M.task)) _ _ (by simp [aC,e1] <;> rfl) (kB (kA (kX (fun _=>rfl) id)) y.out)
   ·have e0:=(y.out.2.1 (G 0 rfl))
    have e2:=(y.out.2.2.2.1 (G 2 rfl))
    have z:=((y.out.1).cell (p:=⟨B,6,none⟩) tO).trans y6
    go_simp
    go_at_call 50
    refine (jV n M.task B d r _ z mn).mono ?_
    rintro _ _ ⟨rfl,rfl⟩
    rw [a7.out]
    refine F.out (upd s 23 (.bool D)) _ _ (by simp [aC,e0,e2] <;> rfl) (kC (kX (fun _=>rfl) id) y.out)
   ·have e3:=(y.out.2.2.2.2.1 (G 3 rfl))
    go_simp
    refine F.out (upd s 24 (.bool (!D))) _ _ (by simp [aC,e3] <;> rfl) (kC (kA (kX (fun _=>rfl) id)) y.out)
   ·have e4:=((jC y.out).2.1 (G 4 rfl))
    go_simp
    refine F.out (upd s 25 (.bool (!D))) _ _ (by simp [aC,e4] <;> rfl) (kC (kB (kX (fun _=>rfl) id)) y.out)
   ·have J:=((jC y.out).2.2.1 (G 5 rfl))
    cases u:(D) with
    | true =>
     rw [u] at J
     go_simp
     refine F.out (upd s 26 (.pointer (some ⟨wr,3,none⟩))) _ _ (by simp [aC,J] <;> rfl) (kC (kB (kA (kX (fun _ _=>rfl) id))) y.out)
    | false =>
     rw [u] at J
     go_simp
     refine F.out (upd s 26 (undef)) _ _ (by simp [aC,J] <;> rfl) (kC (kB (kA (kX (fun _ h=>Bool.noConfusion (h.symm.trans u)) id))) y.out)
   ·have J:=((jC y.out).2.2.1 (G 5 rfl))
    cases u:(D) with
    | true =>
     rw [u] at J
     have e6:=((jC y.out).2.2.2.1 (G 6 rfl)) u
     have z:=(bO (eP O y.out.1)).1 3
     go_simp
     refine F.out (upd s 27 (.int .i64 M.beg)) _ _ (by simp [aC,J,e6] <;> rfl) (kD (kX (fun _ _=>rfl) id) y.out)
    | false =>
     rw [u] at J
     go_simp
     refine F.out (upd s 27 (undef)) _ _ (by simp [aC,J] <;> rfl) (kD (kX (fun _ h=>Bool.noConfusion (h.symm.trans u)) id) y.out)
   ·have J:=((jC y.out).2.2.1 (G 5 rfl))
    cases u:(D) with
    | true =>
     rw [u] at J
     go_simp
     refine F.out (upd s 28 (.pointer (some ⟨B,0,none⟩))) _ _ (by simp [aC,J] <;> rfl) (kD (kA (kX (fun _ _=>rfl) id)) y.out)
    | false =>
     rw [u] at J
     go_simp
     refine F.out (upd s 28 (undef)) _ _ (by simp [aC,J] <;> rfl) (kD (kA (kX (fun _ h=>Bool.noConfusion (h.symm.trans u)) id)) y.out)
   ·have J:=((jC y.out).2.2.1 (G 5 rfl))
    cases u:(D) with
    | true =>
     rw [u] at J
     have e8:=((jD y.out).2.1 (G 8 rfl)) u
     go_simp
     refine F.out (upd s 29 (.pointer (some ⟨B,0,none⟩))) _ _ (by simp [aC,J,e8] <;> rfl) (kD (kB (kX (fun _ _=>rfl) id)) y.out)
    | false =>
     rw [u] at J
     go_simp
     refine F.out (upd s 29 (undef)) _ _ (by simp [aC,J] <;> rfl) (kD (kB (kX (fun _ h=>Bool.noConfusion (h.symm.trans u)) id)) y.out)
   ·have J:=((jC y.out).2.2.1 (G 5 rfl))
    cases u:(D) with
    | true =>
     rw [u] at J
     have e9:=((jD y.out).2.2.1 (G 9 rfl)) u
     go_simp
     refine F.out (upd s 30 (.pointer (some ⟨B,8,none⟩))) _ _ (by simp [aC,J,e9] <;> rfl) (kD (kB (kA (kX (fun _ _=>rfl) id))) y.out)
    | false =>
     rw [u] at J
     go_simp
     refine F.out (upd s 30 (undef)) _ _ (by simp [aC,J] <;> rfl) (kD (kB (kA (kX (fun _ h=>Bool.noConfusion (h.symm.trans u)) id))) y.out)
   ·have J:=((jC y.out).2.2.1 (G 5 rfl))
    cases u:(D) with
    | true =>
     rw [u] at J
     have ac:=((jD y.out).2.2.2.1 (G 10 rfl)) u
     have z:=((y.out.1).cell (p:=⟨B,8,none⟩) tO).trans y8
     go_simp
     refine F.out (upd s 31 (.int .i64 now)) _ _ (by simp [aC,J,ac] <;> rfl) (kD (kC (kX (fun _ _=>rfl) id)) y.out)
    | false =>
     rw [u] at J
     go_simp
     refine F.out (upd s 31 (undef)) _ _ (by simp [aC,J] <;> rfl) (kD (kC (kX (fun _ h=>Bool.noConfusion (h.symm.trans u)) id)) y.out)
   ·have J:=((jC y.out).2.2.1 (G 5 rfl))
    cases u:(D) with
    | true =>
     rw [u] at J
     have e7:=((jD y.out).1 (G 7 rfl)) u
     have ad:=((jC (jD y.out)).1 (G 11 rfl)) u
     go_simp
     go_at_call 45
     refine (eO M.beg now _).mono ?_
     rintro _ _ ⟨rfl,rfl⟩
     rw [a8.out]
     refine F.out (upd s 32 (.bool H)) _ _ (by simp [aC,J,e7,ad] <;> rfl) (kD (kC (kA (kX (fun _ _=>rfl) id))) y.out)
    | false =>
     rw [u] at J
     go_simp
     refine F.out (upd s 32 (undef)) _ _ (by simp [aC,J] <;> rfl) (kD (kC (kA (kX (fun _ h=>Bool.noConfusion (h.symm.trans u)) id))) y.out)
   ·have J:=((jC y.out).2.2.1 (G 5 rfl))
    cases u:(D) with
    | true =>
     rw [u] at J
     have ae:=((jC (jD y.out)).2.1 (G 12 rfl)) u
     go_simp
     refine F.out (upd s 33 (.bool (!H))) _ _ (by simp [aC,J,ae] <;> rfl) (kD (kC (kB (kX (fun _ _=>rfl) id))) y.out)
    | false =>
     rw [u] at J
     go_simp
     refine F.out (upd s 33 (undef)) _ _ (by simp [aC,J] <;> rfl) (kD (kC (kB (kX (fun _ h=>Bool.noConfusion (h.symm.trans u)) id))) y.out)
   ·have J:=((jC y.out).2.2.1 (G 5 rfl))
    have U:=((jC (jD y.out)).2.2.1 (G 13 rfl))
    cases u:(D) with
    | true =>
     rw [u] at J
     replace U:=U u
     go_simp
     refine F.out (upd s 34 (.bool (!H))) _ _ (by simp [aC,J,U] <;> rfl) (kD (kC (kB (kA (kX (fun _=>by rw [show (upd s 34 (.bool (!H))) 34=.bool (!H) from rfl];exact Hz u) id)))) y.out)
    | false =>
     clear U
     rw [u] at J
     go_simp
     refine F.out (upd s 34 (.bool true)) _ _ (by simp [aC,J] <;> rfl) (kD (kC (kB (kA (kX (fun _=>by rw [show (upd s 34 (.bool true)) 34=.bool true from rfl];exact H5 u) id)))) y.out)
   ·have af:=((jC (jD y.out)).2.2.2.1 (G 14 rfl))
    go_simp
    refine F.out (upd s 35 (.bool (!(D && H)))) _ _ (by simp [aC,af] <;> rfl) (kE (kX (fun _=>rfl) id) y.out)
   ·have A:=((jE y.out).1 (G 15 rfl))
    cases u:((D && H)) with
    | true =>
     rw [u] at A
     go_simp
     refine F.out (upd s 36 (.pointer (some ⟨wr,4,none⟩))) _ _ (by simp [aC,A] <;> rfl) (kE (kA (kX (fun _ _=>rfl) id)) y.out)
    | false =>
     rw [u] at A
     go_simp
     refine F.out (upd s 36 (undef)) _ _ (by simp [aC,A] <;> rfl) (kE (kA (kX (fun _ h=>Bool.noConfusion (h.symm.trans u)) id)) y.out)
   ·have A:=((jE y.out).1 (G 15 rfl))
    cases u:((D && H)) with
    | true =>
     rw [u] at A
     have ag:=((jE y.out).2.1 (G 16 rfl)) u
     have z:=(bO (eP O y.out.1)).1 4
     go_simp
     refine F.out (upd s 37 (.int .i64 M.fin)) _ _ (by simp [aC,A,ag] <;> rfl) (kE (kB (kX (fun _ _=>rfl) id)) y.out)
    | false =>
     rw [u] at A
     go_simp
     refine F.out (upd s 37 (undef)) _ _ (by simp [aC,A] <;> rfl) (kE (kB (kX (fun _ h=>Bool.noConfusion (h.symm.trans u)) id)) y.out)
   ·have A:=((jE y.out).1 (G 15 rfl))
    cases u:((D && H)) with
    | true =>
     rw [u] at A
     go_simp
     refine F.out (upd s 38 (.pointer (some ⟨B,0,none⟩))) _ _ (by simp [aC,A] <;> rfl) (kE (kB (kA (kX (fun _ _=>rfl) id))) y.out)
    | false =>
     rw [u] at A
     go_simp
     refine F.out (upd s 38 (undef)) _ _ (by simp [aC,A] <;> rfl) (kE (kB (kA (kX (fun _ h=>Bool.noConfusion (h.symm.trans u)) id))) y.out)
   ·have A:=((jE y.out).1 (G 15 rfl))
    cases u:((D && H)) with
    | true =>
     rw [u] at A
     have ai:=((jE y.out).2.2.2.1 (G 18 rfl)) u
     go_simp
     refine F.out (upd s 39 (.pointer (some ⟨B,0,none⟩))) _ _ (by simp [aC,A,ai] <;> rfl) (kE (kC (kX (fun _ _=>rfl) id)) y.out)
    | false =>
     rw [u] at A
     go_simp
     refine F.out (upd s 39 (undef)) _ _ (by simp [aC,A] <;> rfl) (kE (kC (kX (fun _ h=>Bool.noConfusion (h.symm.trans u)) id)) y.out)
   ·have A:=((jE y.out).1 (G 15 rfl))
    cases u:((D && H)) with
    | true =>
     rw [u] at A
     have aj:=((jC (jE y.out)).1 (G 19 rfl)) u
     go_simp
     refine F.out (upd s 40 (.pointer (some ⟨B,8,none⟩))) _ _ (by simp [aC,A,aj] <;> rfl) (kE (kC (kA (kX (fun _ _=>rfl) id))) y.out)
    | false =>
     rw [u] at A
     go_simp
     refine F.out (upd s 40 (undef)) _ _ (by simp [aC,A] <;> rfl) (kE (kC (kA (kX (fun _ h=>Bool.noConfusion (h.symm.trans u)) id))) y.out)
   ·have A:=((jE y.out).1 (G 15 rfl))
    cases u:((D && H)) with
    | true =>
     rw [u] at A
     have ak:=((jC (jE y.out)).2.1 (G 20 rfl)) u
     have z:=((y.out.1).cell (p:=⟨B,8,none⟩) tO).trans y8
     go_simp
     refine F.out (upd s 41 (.int .i64 now)) _ _ (by simp [aC,A,ak] <;> rfl) (kE (kC (kB (kX (fun _ _=>rfl) id))) y.out)
    | false =>
     rw [u] at A
     go_simp
     refine F.out (upd s 41 (undef)) _ _ (by simp [aC,A] <;> rfl) (kE (kC (kB (kX (fun _ h=>Bool.noConfusion (h.symm.trans u)) id))) y.out)
   ·have A:=((jE y.out).1 (G 15 rfl))
    cases u:((D && H)) with
    | true =>
     rw [u] at A
     have ah:=((jE y.out).2.2.1 (G 17 rfl)) u
     have al:=((jC (jE y.out)).2.2.1 (G 21 rfl)) u
     go_simp
     go_at_call 45
     refine (eO M.fin now _).mono ?_
     rintro _ _ ⟨rfl,rfl⟩
     rw [a9.out]
     refine F.out (upd s 42 (.bool L)) _ _ (by simp [aC,A,ah,al] <;> rfl) (kE (kC (kB (kA (kX (fun _ _=>rfl) id)))) y.out)
    | false =>
     rw [u] at A
     go_simp
     refine F.out (upd s 42 (undef)) _ _ (by simp [aC,A] <;> rfl) (kE (kC (kB (kA (kX (fun _ h=>Bool.noConfusion (h.symm.trans u)) id)))) y.out)
   ·have A:=((jE y.out).1 (G 15 rfl))
    cases u:((D && H)) with
    | true =>
     rw [u] at A
     have am:=((jC (jE y.out)).2.2.2.1 (G 22 rfl)) u
     go_simp
     refine F.out (upd s 43 (.bool (!L))) _ _ (by simp [aC,A,am] <;> rfl) (kE (kD (kX (fun _ _=>rfl) id)) y.out)
    | false =>
     rw [u] at A
     go_simp
     refine F.out (upd s 43 (undef)) _ _ (by simp [aC,A] <;> rfl) (kE (kD (kX (fun _ h=>Bool.noConfusion (h.symm.trans u)) id)) y.out)
   ·have A:=((jE y.out).1 (G 15 rfl))
    have V:=((jD (jE y.out)).1 (G 23 rfl))
    cases u:((D && H)) with
    | true =>
     rw [u] at A
     replace V:=V u
     go_simp
     refine F.out (upd s 44 (.bool (!L))) _ _ (by simp [aC,A,V] <;> rfl) (kE (kD (kA (kX (fun _=>by rw [show (upd s 44 (.bool (!L))) 44=.bool (!L) from rfl];exact Hz u) id))) y.out)
    | false =>
     clear V
     rw [u] at A
     go_simp
     refine F.out (upd s 44 (.bool true)) _ _ (by simp [aC,A] <;> rfl) (kE (kD (kA (kX (fun _=>by rw [show (upd s 44 (.bool true)) 44=.bool true from rfl];exact H5 u) id))) y.out)
   ·have an:=((jD (jE y.out)).2.1 (G 24 rfl))
    go_simp
    refine F.out (upd s 45 (.bool (!((D && H) && L)))) _ _ (by simp [aC,an] <;> rfl) (kE (kD (kB (kX (fun _=>rfl) id))) y.out)
   ·have E:=((jD (jE y.out)).2.2.1 (G 25 rfl))
    cases u:(((D && H) && L)) with
    | true =>
     rw [u] at E
     go_simp
     refine F.out (upd s 46 (.pointer (some ⟨wr,1,none⟩))) _ _ (by simp [aC,E] <;> rfl) (kE (kD (kB (kA (kX (fun _ _=>rfl) id)))) y.out)
    | false =>
     rw [u] at E
     go_simp
     refine F.out (upd s 46 (undef)) _ _ (by simp [aC,E] <;> rfl) (kE (kD (kB (kA (kX (fun _ h=>Bool.noConfusion (h.symm.trans u)) id)))) y.out)
   ·have E:=((jD (jE y.out)).2.2.1 (G 25 rfl))
    cases u:(((D && H) && L)) with
    | true =>
     rw [u] at E
     have ao:=((jD (jE y.out)).2.2.2.1 (G 26 rfl)) u
     have z:=(bO (eP O y.out.1)).1 1
     have z2:=(bO (eP O y.out.1)).1 2
     go_simp
     refine F.out (upd s 47 (.agg #[M.code,M.elem])) _ _ (by simp [aC,E,ao] <;> rfl) (kE (kD (kC (kX (fun _ _=>rfl) id))) y.out)
    | false =>
     rw [u] at E
     go_simp
     refine F.out (upd s 47 (undef)) _ _ (by simp [aC,E] <;> rfl) (kE (kD (kC (kX (fun _ h=>Bool.noConfusion (h.symm.trans u)) id))) y.out)
   ·have E:=((jD (jE y.out)).2.2.1 (G 25 rfl))
    cases u:(((D && H) && L)) with
    | true =>
     rw [u] at E
     go_simp
     refine F.out (upd s 48 (.pointer (some ⟨wr,5,none⟩))) _ _ (by simp [aC,E] <;> rfl) (kE (kD (kC (kA (kX (fun _ _=>rfl) id)))) y.out)
    | false =>
     rw [u] at E
     go_simp
     refine F.out (upd s 48 (undef)) _ _ (by simp [aC,E] <;> rfl) (kE (kD (kC (kA (kX (fun _ h=>Bool.noConfusion (h.symm.trans u)) id)))) y.out)
   ·have E:=((jD (jE y.out)).2.2.1 (G 25 rfl))
    cases u:(((D && H) && L)) with
    | true =>
     rw [u] at E
     have aq:=((jC (jD (jE y.out))).2.1 (G 28 rfl)) u
     have z:=(bO (eP O y.out.1)).1 5
     go_simp
     refine F.out (upd s 49 (.int .i64 M.reply)) _ _ (by simp [aC,E,aq] <;> rfl) (kE (kD (kC (kB (kX (fun _ _=>rfl) id)))) y.out)
    | false =>
     rw [u] at E
     go_simp
     refine F.out (upd s 49 (undef)) _ _ (by simp [aC,E] <;> rfl) (kE (kD (kC (kB (kX (fun _ h=>Bool.noConfusion (h.symm.trans u)) id)))) y.out)
   ·have E:=((jD (jE y.out)).2.2.1 (G 25 rfl))
    cases u:(((D && H) && L)) with
    | true =>
     rw [u] at E
     have ap:=((jC (jD (jE y.out))).1 (G 27 rfl)) u
     have ar:=((jC (jD (jE y.out))).2.2.1 (G 29 rfl)) u
     go_simp
     go_at_call 151
     refine (Ct M.code M.elem M.reply _).mono ?_
     rintro _ wy ⟨rfl,hE⟩
     rw [aa.out]
     refine F.out (upd s 50 (.bool N)) _ _ (by simp [aC,E,ap,ar] <;> rfl) (kX (bT y.out.1 hE) (kE (kD (kC (kB (kX (fun _ _=>rfl) (kX (nU (hn 31 rfl)) (kX (nU (hn 32 rfl)) (kX (nU (hn 33 rfl)) (kX (nU (hn 34 rfl)) (kX (nU (hn 35 rfl)) (kX (nU (hn 36 rfl)) (kX (nU (hn 37 rfl)) (fun _=>nU (hn 38 rfl)))))))))))))) y.out)
    | false =>
     rw [u] at E
     go_simp
     refine F.out (upd s 50 (undef)) _ _ (by simp [aC,E] <;> rfl) (kE (kD (kC (kB (kA (kX (fun _ h=>Bool.noConfusion (h.symm.trans u)) id))))) y.out)
   ·have E:=((jD (jE y.out)).2.2.1 (G 25 rfl))
    cases u:(((D && H) && L)) with
    | true =>
     rw [u] at E
     have au:=((jC (jD (jE y.out))).2.2.2.1 (G 30 rfl)) u
     go_simp
     refine F.out (upd s 51 (.bool (!N))) _ _ (by simp [aC,E,au] <;> rfl) (kE (kE (kX (fun _ _=>rfl) id)) y.out)
    | false =>
     rw [u] at E
     go_simp
     refine F.out (upd s 51 (undef)) _ _ (by simp [aC,E] <;> rfl) (kE (kE (kX (fun _ h=>Bool.noConfusion (h.symm.trans u)) id)) y.out)
   ·have E:=((jD (jE y.out)).2.2.1 (G 25 rfl))
    have X:=((jE (jE y.out)).1 (G 31 rfl))
    cases u:(((D && H) && L)) with
    | true =>
     rw [u] at E
     replace X:=X u
     go_simp
     refine F.out (upd s 52 (.bool (!N))) _ _ (by simp [aC,E,X] <;> rfl) (kE (kE (kA (kX (fun _=>by rw [show (upd s 52 (.bool (!N))) 52=.bool (!N) from rfl];exact Hz u) id))) y.out)
    | false =>
     clear X
     rw [u] at E
     go_simp
     refine F.out (upd s 52 (.bool true)) _ _ (by simp [aC,E] <;> rfl) (kE (kE (kA (kX (fun _=>by rw [show (upd s 52 (.bool true)) 52=.bool true from rfl];exact H5 u) id))) y.out)
   ·have av:=((jE (jE y.out)).2.1 (G 32 rfl))
    go_simp
    refine F.out (upd s 53 (.bool (!(((D && H) && L) && N)))) _ _ (by simp [aC,av] <;> rfl) (kE (kE (kB (kX (fun _=>rfl) id))) y.out)
   ·have I:=((jE (jE y.out)).2.2.1 (G 33 rfl))
    cases u:((((D && H) && L) && N)) with
    | true =>
     rw [u] at I
     go_simp
     refine F.out (upd s 54 (.pointer (some ⟨wr,6,none⟩))) _ _ (by simp [aC,I] <;> rfl) (kE (kE (kB (kA (kX (fun _ _=>rfl) id)))) y.out)
    | false =>
     rw [u] at I
     go_simp
     refine F.out (upd s 54 (undef)) _ _ (by simp [aC,I] <;> rfl) (kE (kE (kB (kA (kX (fun _ h=>Bool.noConfusion (h.symm.trans u)) id)))) y.out)
   ·have I:=((jE (jE y.out)).2.2.1 (G 33 rfl))
    cases u:((((D && H) && L) && N)) with
    | true =>
     rw [u] at I
     have aw:=((jE (jE y.out)).2.2.2.1 (G 34 rfl)) u
     have z:=(bO (eP O y.out.1)).1 6
     go_simp
     refine F.out (upd s 55 (.int .i64 M.out)) _ _ (by simp [aC,I,aw] <;> rfl) (kE (kE (kC (kX (fun _ _=>rfl) id))) y.out)
    | false =>
     rw [u] at I
     go_simp
     refine F.out (upd s 55 (undef)) _ _ (by simp [aC,I] <;> rfl) (kE (kE (kC (kX (fun _ h=>Bool.noConfusion (h.symm.trans u)) id))) y.out)
   ·have I:=((jE (jE y.out)).2.2.1 (G 33 rfl))
    cases u:((((D && H) && L) && N)) with
    | true =>
     rw [u] at I
     have ax:=((jC (jE (jE y.out))).1 (G 35 rfl)) u
     go_simp
     go_at_call 45
     refine (eO M.out 999 _).mono ?_
     rintro _ _ ⟨rfl,rfl⟩
     rw [ab.out]
     refine F.out (upd s 56 (.bool q4)) _ _ (by simp [aC,I,ax] <;> rfl) (kE (kE (kC (kA (kX (fun _ _=>rfl) id)))) y.out)
    | false =>
     rw [u] at I
     go_simp
     refine F.out (upd s 56 (undef)) _ _ (by simp [aC,I] <;> rfl) (kE (kE (kC (kA (kX (fun _ h=>Bool.noConfusion (h.symm.trans u)) id)))) y.out)
   ·have I:=((jE (jE y.out)).2.2.1 (G 33 rfl))
    cases u:((((D && H) && L) && N)) with
    | true =>
     rw [u] at I
     have ay:=((jC (jE (jE y.out))).2.1 (G 36 rfl)) u
     go_simp
     refine F.out (upd s 57 (.bool (!q4))) _ _ (by simp [aC,I,ay] <;> rfl) (kE (kE (kC (kB (kX (fun _ _=>rfl) id)))) y.out)
    | false =>
     rw [u] at I
     go_simp
     refine F.out (upd s 57 (undef)) _ _ (by simp [aC,I] <;> rfl) (kE (kE (kC (kB (kX (fun _ h=>Bool.noConfusion (h.symm.trans u)) id)))) y.out)
   ·have I:=((jE (jE y.out)).2.2.1 (G 33 rfl))
    have Y:=((jC (jE (jE y.out))).2.2.1 (G 37 rfl))
    cases u:((((D && H) && L) && N)) with
    | true =>
     rw [u] at I
     replace Y:=Y u
     go_simp
     refine F.out (upd s 58 (.bool (!q4))) _ _ (by simp [aC,I,Y] <;> rfl) (kE (kE (kC (kB (kA (fun _=>fun _=>by rw [show (upd s 58 (.bool (!q4))) 58=.bool (!q4) from rfl];exact Hz u))))) y.out)
    | false =>
     clear Y
     rw [u] at I
     go_simp
     refine F.out (upd s 58 (.bool true)) _ _ (by simp [aC,I] <;> rfl) (kE (kE (kC (kB (kA (fun _=>fun _=>by rw [show (upd s 58 (.bool true)) 58=.bool true from rfl];exact H5 u))))) y.out)
  ·have:k=ds.length:=by omega
   subst this
   have h1:=a0.out
   rw [List.take_length] at h1
   go_wp2
   go_ret
   exact ⟨dB h1.symm,hB⟩
end
end Go.Proofs.YtffhjmepfojhnaaGreat
