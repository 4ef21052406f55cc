/-
  The reference model's looks at a cell of chapters 7 and 8, on hands and channels that are kept whole; lists lie in memory.
-/
import Derived.Test.YtffhjmepfojhnaaGreatT05
import Derived.Test.YtffhjmepfojhnaaGreatT10
import Derived.BigRegion
set_option maxRecDepth 100000
set_option maxHeartbeats 2000000
set_option linter.unusedSimpArgs false
set_option linter.unusedVariables false
namespace Go.Proofs.YtffhjmepfojhnaaGreat
open _root_.Go.Proofs.Tryz
section
open Go.RowKit
attribute [local simp] dz
attribute [local go_sem ↓] dA fU dO gW dP gY dW fE bK eO
theorem zU (h:Ha) (t:Int) (w:World):Calls prog 206 #[.agg (aB h),.int .i64 t] w fun r w'=>r=.returned (.agg (aB (dL h t)))∧Below w w w':=by
 go_enter func206,ntmps206
 go_wp2;refine bodyPost_ret (jY results206 rfl (aQ (dL h t) yo)) rfl ⟨rfl,zB⟩
theorem l8 (h:Ha) (w:World):Calls prog 209 #[.agg (aB h)] w fun r w'=>r=.returned (.agg (aB (bF h)))∧Below w w w':=by
 by_cases K:h.nxt=0
 ·rw [show bF h=aM 2 h.out by simp [bF,K]]
  go_enter func209,ntmps209
  go_wp2_with fail;refine aK w zB fun I=>?_;refine (iy 2 h.out _).mono ?_;rintro _ M ⟨rfl,F⟩;obtain ⟨J,G,H⟩:=I9 I F (b:=w);(try simp at G);(try simp [go_sem] at H);replace L:=zX H;clear H F I
  go_wp2;refine bodyPost_ret (jY results209 rfl (aQ (aM 2 h.out) tZ)) rfl ⟨rfl,zB⟩
 ·by_cases h1:h.nxt=1
  ·rw [show bF h={ h with pos:=23 } by simp [bF,h1]]
   go_enter func209,ntmps209
   go_wp2;refine bodyPost_ret (jY results209 rfl (aQ { h with pos:=23 } (by simp [go_sem, *] <;> first|rfl|simp [*]))) rfl ⟨rfl,zB⟩
  ·rw [show bF h=anew h by simp [bF,K,h1]]
   have n0:(h.nxt == 0)=false:=by simpa using K
   have n1:(h.nxt == 1)=false:=by simpa using h1
   clear K h1;go_enter func209,ntmps209;go_wp2_with fail;refine aK w zB fun I=>?_;refine (nD h _).mono ?_;rintro _ M ⟨rfl,F⟩;obtain ⟨J,G,H⟩:=I9 I F (b:=w);(try simp at G);(try simp [go_sem] at H);replace L:=zX H;clear H F I
   go_wp2;refine bodyPost_ret (jY results209 rfl (aQ (anew h) tZ)) rfl ⟨rfl,zB⟩
theorem qN {c:Ch} {h:Ha} {x:C3} (G:cellAt c h.cell=x) (n:Int) (F:x.s=n) :
  iV c h=if n == 0 then ({ dD h x with pos:=11 },true) else if n == 1 then ({ dD h x with pos:=11 },true) else if n == 2 then ({ dD h x with pos:=12 },true) else if n == 3 then ({ dD h x with pos:=12 },true) else if n == 9 then (anew (dD h x),true) else (dD h x,false):=by
 subst F;subst G;rfl
theorem Jp (c:Ch) (h:Ha) (a b:Option Addr) (p q:Nat) (w:World) (h1:gG w w a c.cells) (a0:0≤h.cell) (a1:h.cell<c.cells.length) :
  Calls prog 204 #[.agg (aH c (.slice a c.cells p) (.slice b c.words q)),.agg (aB h)] w fun r w'=>r=.returned (.tuple #[.agg (aB (iV c h).1),.bool (iV c h).2])∧Below w w w':=by
 obtain ⟨i,G⟩:∃ i:Nat,h.cell=(i:Int):=⟨h.cell.toNat,by omega⟩;have hi:i<c.cells.length:=tO;obtain ⟨H,bo,rfl,hb,F⟩:∃ K o,a=some ⟨K,o,none⟩∧K<w.heap.size∧Hid (∀ j,j<3→w.cell? ⟨K,o+i*3+j,none⟩=some ((c.cells.getD i ⟨0,0,0⟩).val j)):=by
  rcases h1 with h0|⟨K,o',e,h1,h2⟩
  ·omega
  ·exact ⟨K,o',e,h1,fun j hj=>by simpa [jy] using h2 i j hi hj⟩
 clear h1;have c0:=F.out 0 tO;have V:=F.out 1 tO;have c2:=F.out 2 tO;have J:Hid (cellAt c h.cell=c.cells.getD i ⟨0,0,0⟩):=by simp [cellAt,Hid,G]
 clear F;generalize c.cells.getD i ⟨0,0,0⟩=x at *;obtain ⟨s,e,t⟩:=x;simp only [C3.val,Nat.add_zero] at c0 V c2;have a2:(0:Int)≤(i:Int):=tO;have a3:(i:Int)<(c.cells.length:Int):=tO;have X:H<w.heap.size+1:=tO;have Y:H<w.heap.size+1+1:=tO;have Z:H<w.heap.size+1+1+1:=tO;have a4:H≠w.heap.size:=tO;have R:H≠w.heap.size+1:=tO;have T:H≠w.heap.size+1+1:=tO;have U:H≠w.heap.size+1+1+1:=tO;by_cases O:s=0∨s=1∨s=2∨s=3∨s=9
 ·rcases O with rfl|rfl|rfl|rfl|rfl
  ·rw [show iV c h=({ dD h ⟨0,e,t⟩ with pos:=11 },true) from qN J.out 0 rfl]
   go_enter func204,ntmps204
   go_wp2;refine bodyPost_ret (jZ results204 rfl (aQ ({ dD h ⟨0,e,t⟩ with pos:=11 }) C9)) rfl ⟨rfl,zB⟩
  ·rw [show iV c h=({ dD h ⟨1,e,t⟩ with pos:=11 },true) from qN J.out 1 rfl]
   go_enter func204,ntmps204
   go_wp2;refine bodyPost_ret (jZ results204 rfl (aQ ({ dD h ⟨1,e,t⟩ with pos:=11 }) C9)) rfl ⟨rfl,zB⟩
  ·rw [show iV c h=({ dD h ⟨2,e,t⟩ with pos:=12 },true) from qN J.out 2 rfl]
   go_enter func204,ntmps204
   go_wp2;refine bodyPost_ret (jZ results204 rfl (aQ ({ dD h ⟨2,e,t⟩ with pos:=12 }) C9)) rfl ⟨rfl,zB⟩
  ·rw [show iV c h=({ dD h ⟨3,e,t⟩ with pos:=12 },true) from qN J.out 3 rfl]
   go_enter func204,ntmps204
   go_wp2;refine bodyPost_ret (jZ results204 rfl (aQ ({ dD h ⟨3,e,t⟩ with pos:=12 }) C9)) rfl ⟨rfl,zB⟩
  ·rw [show iV c h=(anew (dD h ⟨9,e,t⟩),true) from qN J.out 9 rfl]
   go_enter func204,ntmps204
   go_wp2_with fail;refine aK w zB fun H=>?_;refine (nD _ _).mono ?_;rintro _ w1 ⟨rfl,I⟩;obtain ⟨N,L,M⟩:=sG H I (b:=w);(try simp at L);(try simp [go_sem] at M);replace bX:=pq M;clear M I H
   go_wp2;refine bodyPost_ret (jZ results204 rfl (aQ (anew (dD h ⟨9,e,t⟩)) C9)) rfl ⟨rfl,zB⟩
 ·have n0:(s == 0)=false:=by simp;omega
  have n1:(s == 1)=false:=by simp;omega
  have n2:(s == 2)=false:=by simp;omega
  have n3:(s == 3)=false:=by simp;omega
  have n9:(s == 9)=false:=by simp;omega
  rw [show iV c h=(dD h ⟨s,e,t⟩,false) from by rw [qN J.out s rfl,n0,n1,n2,n3,n9];rfl]
  clear O;go_enter func204,ntmps204;go_wp2;refine bodyPost_ret (jZ results204 rfl (aQ (dD h ⟨s,e,t⟩) C9)) rfl ⟨rfl,zB⟩
theorem xw {c:Ch} {h:Ha} {x:C3} (G:cellAt c h.grow=x) (n:Int) (F:x.s=n) :
  lZ c h=if n == 0 then { dC h x with pos:=19 } else if n == 3 then { dC h x with pos:=19 } else if n == 9 then { dC h x with pos:=16 } else bF (dC h x):=by
 subst F;subst G;rfl
theorem Jq (c:Ch) (h:Ha) (a b:Option Addr) (p q:Nat) (w:World) (h1:gG w w a c.cells) (Z:0≤h.grow) (a0:h.grow<c.cells.length) :
  Calls prog 210 #[.agg (aH c (.slice a c.cells p) (.slice b c.words q)),.agg (aB h)] w fun r w'=>r=.returned (.agg (aB (lZ c h)))∧Below w w w':=by
 obtain ⟨i,G⟩:∃ i:Nat,h.grow=(i:Int):=⟨h.grow.toNat,by omega⟩;have hi:i<c.cells.length:=tO;obtain ⟨H,bo,rfl,hb,F⟩:∃ J o,a=some ⟨J,o,none⟩∧J<w.heap.size∧Hid (∀ j,j<3→w.cell? ⟨J,o+i*3+j,none⟩=some ((c.cells.getD i ⟨0,0,0⟩).val j)):=by
  rcases h1 with h0|⟨J,o',e,h1,h2⟩
  ·omega
  ·exact ⟨J,o',e,h1,fun j hj=>by simpa [jy] using h2 i j hi hj⟩
 clear h1;have c0:=F.out 0 tO;have c2:=F.out 2 tO;have L:Hid (cellAt c h.grow=c.cells.getD i ⟨0,0,0⟩):=by simp [cellAt,Hid,G]
 clear F;generalize c.cells.getD i ⟨0,0,0⟩=x at *;obtain ⟨s,e,t⟩:=x;simp only [C3.val,Nat.add_zero] at c0 c2;have a1:(0:Int)≤(i:Int):=tO;have a2:(i:Int)<(c.cells.length:Int):=tO;have V:H<w.heap.size+1:=tO;have X:H<w.heap.size+1+1:=tO;have Y:H<w.heap.size+1+1+1:=tO;have a3:H≠w.heap.size:=tO;have R:H≠w.heap.size+1:=tO;have T:H≠w.heap.size+1+1:=tO;have U:H≠w.heap.size+1+1+1:=tO;by_cases O:s=0∨s=3∨s=9
 ·rcases O with rfl|rfl|rfl
  ·rw [show lZ c h={ dC h ⟨0,e,t⟩ with pos:=19 } from xw L.out 0 rfl]
   go_enter func210,ntmps210
   go_wp2;refine bodyPost_ret (jY results210 rfl (aQ ({ dC h ⟨0,e,t⟩ with pos:=19 }) K4)) rfl ⟨rfl,zB⟩
  ·rw [show lZ c h={ dC h ⟨3,e,t⟩ with pos:=19 } from xw L.out 3 rfl]
   go_enter func210,ntmps210
   go_wp2;refine bodyPost_ret (jY results210 rfl (aQ ({ dC h ⟨3,e,t⟩ with pos:=19 }) K4)) rfl ⟨rfl,zB⟩
  ·rw [show lZ c h={ dC h ⟨9,e,t⟩ with pos:=16 } from xw L.out 9 rfl]
   go_enter func210,ntmps210
   go_wp2;refine bodyPost_ret (jY results210 rfl (aQ ({ dC h ⟨9,e,t⟩ with pos:=16 }) K4)) rfl ⟨rfl,zB⟩
 ·have n0:(s == 0)=false:=by simp;omega
  have n3:(s == 3)=false:=by simp;omega
  have n9:(s == 9)=false:=by simp;omega
  rw [show lZ c h=bF (dC h ⟨s,e,t⟩) from by rw [xw L.out s rfl,n0,n3,n9];rfl]
  clear O;go_enter func210,ntmps210;go_wp2_with fail;refine aK w zB fun H=>?_;refine (l8 _ _).mono ?_;rintro _ w1 ⟨rfl,I⟩;obtain ⟨N,K,M⟩:=sG H I (b:=w);(try simp at K);(try simp [go_sem] at M);replace bX:=pq M;clear M I H
  go_wp2;refine bodyPost_ret (jY results210 rfl (aQ (bF (dC h ⟨s,e,t⟩)) K4)) rfl ⟨rfl,zB⟩
theorem G8 (c:Ch) (h:Ha):(ib c h).1.cells=c.cells:=by unfold ib;split <;> rfl
theorem G9 (c:Ch) (h:Ha):(ib c h).1.words=c.words:=by unfold ib;split <;> rfl
theorem GA (c:Ch) (h:Ha) (J K:Option Addr) (n1 L M N:Nat) (w:World) (hf:0≤c.fin∧c.fin≤40) :
  Calls prog 208 #[.agg (aH c (.slice J n1 M) (.slice K L N)),.agg (aB h)] w fun r w'=>r=.returned (.tuple #[.agg (aH (ib c h).1 (.slice J n1 M) (.slice K L N)),.agg (aB (ib c h).2)])∧Below w w w':=by
 by_cases hc:c.cap=0∨c.fin=40
 ·rw [show ib c h=(c,bF h) by unfold ib;rw [if_pos (by simpa using hc)]]
  have G:(c.cap == 0)=true∨((c.cap == 0)=false∧(c.fin == 40)=true):=by
   by_cases O:c.cap=0
   ·exact .inl (by simpa using O)
   ·exact .inr ⟨by simpa using O,by simpa [O] using hc⟩
  clear hc;rcases G with G|⟨G,Y⟩
  all_goals go_enter func208,ntmps208
  all_goals go_wp2_with fail
  all_goals go_region_with (first|((go_at_call 209;refine aK w zB fun T=>?_;refine (l8 _ _).mono ?_;rintro _ w1 ⟨rfl,F⟩;obtain ⟨H,I,R⟩:=gZ T F (b:=w);(try simp at I);(try simp [go_sem] at R);replace Z:=fP R;clear R;have U:=H;clear F T)))
  all_goals go_wp2
  all_goals exact bodyPost_ret (vR results208 rfl (bN c (.slice J n1 M) (.slice K L N) tY) rfl (aQ (bF h) tY)) rfl ⟨rfl,zB⟩
 ·have V:(c.cap == 0)=false:=by simp;omega
  have X:(c.fin == 40)=false:=by simp;omega
  rw [show ib c h=({ c with fin:=c.fin+1 },{ h with grow:=c.fin,pos:=17 }) by unfold ib;rw [if_neg (by simpa using hc)]]
  clear hc;go_enter func208,ntmps208;go_wp2_with fail
  go_region
  all_goals go_wp2
  all_goals exact bodyPost_ret (vR results208 rfl (bN { c with fin:=c.fin+1 } (.slice J n1 M) (.slice K L N) tZ) rfl (aQ { h with grow:=c.fin,pos:=17 } tZ)) rfl ⟨rfl,zB⟩
end
end Go.Proofs.YtffhjmepfojhnaaGreat
