/-
  The contracts of the laws' helpers on channels; lists of at most 1048576 elements.
-/
import Derived.Test.YtffhjmepfojhnaaGreatP15
import Derived.Test.YtffhjmepfojhnaaGreatP01
import Derived.Test.YtffhjmepfojhnaaGreatP02
import Derived.Test.YtffhjmepfojhnaaGreatP03
import Derived.Deep.AppendLies
import Derived.BigRegion
set_option maxRecDepth 100000
set_option maxHeartbeats 4000000
set_option linter.unusedSimpArgs false
set_option linter.unusedVariables false
namespace Go.Proofs.YtffhjmepfojhnaaGreat
section
open Go.RowKit
theorem CU (c:Ch) (a b:Option Addr) (p q:Nat) (w:World) (h1:eY w w.heap.size a c.cells) (h2:eZ w w.heap.size b c.words) (m1:c.cells.length≤1048576) (m2:c.words.length≤1048576) :
  Calls Tryz.prog 87 #[.agg #[.int .i64 c.cap,.int .i64 c.sent,.int .i64 c.got,.int .i64 c.fin,.slice a c.cells.length p,.slice b c.words.length q]] w fun r w' =>
   (∃ g1 g2,r=.returned (.agg #[.int .i64 c.cap,.int .i64 c.sent,.int .i64 c.got,.int .i64 c.fin,.slice (some ⟨g1,0,none⟩) c.cells.length c.cells.length,.slice (some ⟨g2,0,none⟩) c.words.length c.words.length])∧w.heap.size≤g1∧w.heap.size≤g2∧Row w' g1 93 c.cells.length 3 (eT c.cells)∧Row w' g2 2 c.words.length 1 (fP c.words))∧Below w.heap.size w w':=by
 obtain ⟨cap,sent,got,fin,cells,words⟩:=c
 simp only at *
 have H1:=Lib.hid h1
 have H2:=Lib.hid h2
 clear h1 h2
 go_enter Tryz.func87,Tryz.ntmps87
 go_wp2_with fail
 refine (Ae cells a p _ (((H1.out).below zB).more (by simp;try omega)) m1).mono ?_
 rintro _ w1 ⟨rfl,tC,hb1⟩
 have hB1:Below w.heap.size w w1:=bT zB hb1
 have hs1:=hb1.size
 simp at hs1 tC
 have:=fun o=>hb1.cell (p:=⟨w.heap.size,o,none⟩) (by simp;try omega)
 have:=fun o=>hb1.frozen (p:=⟨w.heap.size,o,none⟩) (by simp;try omega)
 have:=fun o=>hb1.cell (p:=⟨w.heap.size+1,o,none⟩) (by simp;try omega)
 have:=fun o=>hb1.frozen (p:=⟨w.heap.size+1,o,none⟩) (by simp;try omega)
 have:=fun o=>hb1.cell (p:=⟨w.heap.size+1+1,o,none⟩) (by simp;try omega)
 have:=fun o=>hb1.frozen (p:=⟨w.heap.size+1+1,o,none⟩) (by simp;try omega)
 have:w.heap.size<w.heap.size+1+1:=by omega
 have:w.heap.size≤w.heap.size+1:=by omega
 have:w.heap.size<w1.heap.size:=by omega
 have hl1:=tC.lt
 go_wp2_with fail
 refine (xB words b q _ (((H2.out).below zB).more (by simp [World.setCell];try omega)) m2).mono ?_
 rintro _ w2 ⟨rfl,hR2,hb2⟩
 have hB2:Below w.heap.size w w2:=bT zB hb2
 have MP:=(tC.setOther (a:=⟨w.heap.size+1+1,4,none⟩) (by simp;try omega) (.slice (some ⟨w.heap.size+1+1+1,0,none⟩) cells.length cells.length)).below hb2 (by simp [World.setCell];try omega)
 have hs2:=hb2.size
 simp [World.setCell] at hs2 hR2
 have:=fun o=>hb2.cell (p:=⟨w.heap.size,o,none⟩) (by simp [World.setCell];try omega)
 have:=fun o=>hb2.frozen (p:=⟨w.heap.size,o,none⟩) (by simp [World.setCell];try omega)
 have:=fun o=>hb2.cell (p:=⟨w.heap.size+1,o,none⟩) (by simp [World.setCell];try omega)
 have:=fun o=>hb2.frozen (p:=⟨w.heap.size+1,o,none⟩) (by simp [World.setCell];try omega)
 have:=fun o=>hb2.cell (p:=⟨w.heap.size+1+1,o,none⟩) (by simp [World.setCell];try omega)
 have:=fun o=>hb2.frozen (p:=⟨w.heap.size+1+1,o,none⟩) (by simp [World.setCell];try omega)
 have:w.heap.size+1+1+1≤w1.heap.size:=by omega
 clear hb1 hb2 tC
 go_wp2_with fail
 refine bodyPost_ret (v:=.agg #[.int .i64 cap,.int .i64 sent,.int .i64 got,.int .i64 fin,.slice (some ⟨w.heap.size+1+1+1,0,none⟩) cells.length cells.length,.slice (some ⟨w1.heap.size,0,none⟩) words.length words.length]) (by simp [results,Tryz.results87,go_sem, *]) rfl ⟨⟨w.heap.size+1+1+1,w1.heap.size,rfl,by omega,by omega,?_,?_⟩,?_⟩
 ·repeat (first|with_reducible exact MP|((with_reducible refine Row.setOther ?_ ?_ _);rotate_left;(focus ((try simp);(try omega)))))
 ·repeat (first|with_reducible exact hR2|((with_reducible refine Row.setOther ?_ ?_ _);rotate_left;(focus ((try simp);(try omega)))))
 ·exact zB
theorem CV (c:Ch) (a b a' b':Option Addr) (p q p' q':Nat) (w:World) (h1:eY w w.heap.size a c.cells) (h2:eZ w w.heap.size b c.words) (h3:Seg w w.heap.size a' c.cells.length 3 (eT c.cells)) (h4:Seg w w.heap.size b' c.words.length 1 (fP c.words)) (m1:c.cells.length≤1048576) (m2:c.words.length≤1048576) :
  Calls Tryz.prog 90 #[.agg #[.int .i64 c.cap,.int .i64 c.sent,.int .i64 c.got,.int .i64 c.fin,.slice a c.cells.length p,.slice b c.words.length q],.agg #[.int .i64 c.cap,.int .i64 c.sent,.int .i64 c.got,.int .i64 c.fin,.slice a' c.cells.length p',.slice b' c.words.length q']] w fun r w'=>r=.returned (.bool true)∧Below w.heap.size w w':=by
 obtain ⟨cap,sent,got,fin,cells,words⟩:=c
 simp only at *
 have H1:=Lib.hid h1
 have H2:=Lib.hid h2
 have H3:=Lib.hid h3
 have H4:=Lib.hid h4
 clear h1 h2 h3 h4
 go_enter Tryz.func90,Tryz.ntmps90
 go_wp2_with fail
 refine (Af cells a a' p p' _ (((H1.out).below zB).more (by simp;try omega)) (((H3.out).below zB).more (by simp;try omega)) m1).mono ?_
 rintro _ w1 ⟨rfl,hb1⟩
 have hB1:Below w.heap.size w w1:=bT zB hb1
 have hs1:=hb1.size
 simp at hs1
 have:=fun o=>hb1.cell (p:=⟨w.heap.size,o,none⟩) (by simp;try omega)
 have:=fun o=>hb1.cell (p:=⟨w.heap.size+1,o,none⟩) (by simp;try omega)
 go_wp2_with fail
 refine (jU words b b' q q' _ (((H2.out).below hB1).more tO) (((H4.out).below hB1).more tO) m2).mono ?_
 rintro _ w2 ⟨rfl,hb2⟩
 have hB2:Below w.heap.size w w2:=bT hB1 hb2
 go_wp2
 go_ret
 exact ⟨rfl,hB2⟩
def nP (left:Int) (n:Nat):Int:=if left<n then -1 else left - n
def mX (left:Int) (c:Ch):Int:=if nP left c.cells.length<0 then -1 else nP (nP left c.cells.length) c.words.length
theorem Ag {left:Int} {n:Nat} (h:left<n):nP left n=-1:=if_pos h
theorem vM {left:Int} {n:Nat} (h:¬ left<n):nP left n=left - n:=if_neg h
theorem CW (c:Ch) (a b:Option Addr) (p q:Nat) (left:Int) (w:World) (h0:0≤left) (h1:left≤1048576) (m1:c.cells.length≤maxLen) (m2:c.words.length≤maxLen) :
  Calls Tryz.prog 84 #[.agg #[.int .i64 c.cap,.int .i64 c.sent,.int .i64 c.got,.int .i64 c.fin,.slice a c.cells.length p,.slice b c.words.length q],.int .i64 left] w fun r w'=>r=.returned (.int .i64 (mX left c))∧Below w.heap.size w w':=by
 have M1:=Lib.hid m1
 have M2:=Lib.hid m2
 clear m1 m2
 by_cases hc:left<c.cells.length
 ·have HV:Hid (-1=mX left c):=by unfold mX;rw [Ag hc];rfl
  have HQ:Hid ((if left<(c.cells.length:Int) then (-1:Int) else left - c.cells.length)=-1):=if_pos hc
  clear hc
  go_enter Tryz.func84,Tryz.ntmps84
  go_wp2_with fail
  refine (mW _ _ _ _ _ h0 h1 M1.out).mono ?_
  rintro _ _ ⟨rfl,rfl⟩
  rw [HQ.out]
  go_wp2
  go_ret
  exact ⟨jm HV.out,by exact zB⟩
 ·obtain ⟨l2,e2⟩:∃ l2,l2=left - c.cells.length:=⟨_,rfl⟩
  have HQ:Hid ((if left<(c.cells.length:Int) then (-1:Int) else left - c.cells.length)=l2):=by rw [e2];exact if_neg hc
  have hl0:0≤l2:=by omega
  have hl1:l2≤1048576:=by omega
  have hl2:¬ l2<0:=by omega
  have HL:Hid (mX left c=nP l2 c.words.length):=by unfold mX;rw [vM hc,← e2,if_neg hl2];rfl
  clear hc e2
  by_cases hw:l2<c.words.length
  ·have HV:Hid (-1=mX left c):=by rw [HL.out,Ag hw];rfl
   have MQ:Hid ((if l2<(c.words.length:Int) then (-1:Int) else l2 - c.words.length)=-1):=if_pos hw
   clear hw
   go_enter Tryz.func84,Tryz.ntmps84
   go_wp2_with fail
   refine (mW _ _ _ _ _ h0 h1 M1.out).mono ?_
   rintro _ _ ⟨rfl,rfl⟩
   rw [HQ.out]
   go_wp2_with fail
   refine (oQ _ _ _ _ _ hl0 hl1 M2.out).mono ?_
   rintro _ _ ⟨rfl,rfl⟩
   rw [MQ.out]
   go_wp2
   go_ret
   exact ⟨jm HV.out,by exact zB⟩
  ·obtain ⟨l3,e3⟩:∃ l3,l3=l2 - c.words.length:=⟨_,rfl⟩
   have HV:Hid (l3=mX left c):=by rw [HL.out,vM hw,e3];rfl
   have MQ:Hid ((if l2<(c.words.length:Int) then (-1:Int) else l2 - c.words.length)=l3):=by rw [e3];exact if_neg hw
   have hl3:¬ l3<0:=by omega
   clear hw e3
   go_enter Tryz.func84,Tryz.ntmps84
   go_wp2_with fail
   refine (mW _ _ _ _ _ h0 h1 M1.out).mono ?_
   rintro _ _ ⟨rfl,rfl⟩
   rw [HQ.out]
   go_wp2_with fail
   refine (oQ _ _ _ _ _ hl0 hl1 M2.out).mono ?_
   rintro _ _ ⟨rfl,rfl⟩
   rw [MQ.out]
   go_wp2
   go_ret
   exact ⟨jm HV.out,by exact zB⟩
end
section
open Go.RowKit
def kV (k:Int) (n:Nat):List Int:=(List.range n).map fun (i:Nat)=>k+(i:Int)
def lX (k:Int) (n:Nat):List C3:=(List.range n).map fun (i:Nat)=>⟨k+3*(i:Int),k+3*(i:Int)+1,k+3*(i:Int)+2⟩
theorem lY (k:Int) (n:Nat):(kV k n).length=n:=by simp [kV]
theorem o6 (k:Int) (n:Nat):(lX k n).length=n:=by simp [lX]
theorem sG {k:Int} {n i:Nat} (h:i<n):(kV k n).getD i 0=k+(i:Int):=by simp [kV,List.getD,h]
theorem CX {k:Int} {n i:Nat} (h:i<n):(lX k n).getD i ⟨0,0,0⟩=⟨k+3*(i:Int),k+3*(i:Int)+1,k+3*(i:Int)+2⟩:=by simp [lX,List.getD,h]
def L6 (k:Int) (f:Nat→Nat→Value) (m i j:Nat):Value:=if i<m then .int .i64 (k+(i:Int)) else f i j
def L8 (k:Int) (f:Nat→Nat→Value) (m i j:Nat):Value:=if i<m then C3.val ⟨k+3*(i:Int),k+3*(i:Int)+1,k+3*(i:Int)+2⟩ j else f i j
theorem Nt (k:Int) (f:Nat→Nat→Value):L6 k f 0=f:=by funext i j;simp [L6]
theorem Nu (k:Int) (f:Nat→Nat→Value):L8 k f 0=f:=by funext i j;simp [L8]
theorem I6 {k x:Int} {f:Nat→Nat→Value} {m:Nat} (h:x=k+(m:Int)) (i j:Nat):(if i=m then Value.int .i64 x else L6 k f m i j)=L6 k f (m+1) i j:=by
 subst h
 unfold L6
 by_cases e:i=m
 ·subst e;rw [if_pos rfl,if_pos tO]
 ·rw [if_neg e]
  by_cases e2:i<m
  ·rw [if_pos e2,if_pos tO]
  ·rw [if_neg e2,if_neg tO]
theorem I7 {k:Int} {f:Nat→Nat→Value} {m:Nat} {c:C3} (h:c=⟨k+3*(m:Int),k+3*(m:Int)+1,k+3*(m:Int)+2⟩) (i j:Nat):(if i=m then c.val j else L8 k f m i j)=L8 k f (m+1) i j:=by
 subst h
 unfold L8
 by_cases e:i=m
 ·subst e;rw [if_pos rfl,if_pos tO]
 ·rw [if_neg e]
  by_cases e2:i<m
  ·rw [if_pos e2,if_pos tO]
  ·rw [if_neg e2,if_neg tO]
theorem KJ (k:Int) (f:Nat→Nat→Value) (n:Nat):∀ i j,i<n→j<1→L6 k f n i j=fP (kV k n) i j:=fun i j hi _=>by simp only [L6,fP,sG hi,if_pos hi]
theorem KL (k:Int) (f:Nat→Nat→Value) (n:Nat):∀ i j,i<n→j<3→L8 k f n i j=eT (lX k n) i j:=fun i j hi _=>by simp only [L8,eT,CX hi,if_pos hi]
theorem qF {w W:World} {g:Nat} {p:Addr} {u:Value} (h:w.grownBy W (some g)) (hp:p.block=g):w.grownBy (W.setCell p u) (some g) :=
 ⟨h.os,h.tape,h.output,by simpa [World.setCell] using h.size,fun k hk hn=>(Below.heap_setCell W p u k (by
  rintro rfl
  exact hn (by rw [hp]))).trans (h.block k hk hn)⟩
theorem L9 (w:World) (row:Option Nat):w.grownBy w row:=⟨rfl,rfl,rfl,Nat.le_refl _,fun _ _ _=>rfl⟩
theorem mY (n:Nat) (f:Nat→Nat→Value) (lo:Nat) (v:Value) (k:Int) (w:World) (h:New w lo v n 1 f) (h0:0≤k) (h1:k≤1099511627776) (hm:n≤1048576) :
  Calls Tryz.prog 43 #[v,.int .i64 k] w fun r w'=>r=.returned (.int .i64 (k+n))∧yj w' lo v (kV k n)∧w.grownBy w' v.ownBlock:=by
 rcases h with ⟨rfl,rfl⟩|⟨g,cap,rfl,hl,hL⟩
 ·go_enter Tryz.func43,Tryz.ntmps43
  go_wp2
  go_loopw [1,5] (fun q i wr=>i=.int .i64 0∧q=.int .i64 k∧wr=w) (fun _ i _=>0 - (intOf i).toNat)
  case atStart=>exact ⟨rfl,rfl,rfl⟩
  case round =>
   obtain ⟨rfl,rfl,rfl⟩:=hrel
   go_wp2
   go_ret
   exact ⟨by simp,.inl ⟨rfl,rfl⟩,L9 _ _⟩
 ·have hW:=L9 w (some g)
  go_enter Tryz.func43,Tryz.ntmps43
  go_wp2
  go_loopw [1,5] (fun q i wr=>∃ m:Nat,m≤n∧i=.int .i64 m∧q=.int .i64 (k+m)∧Lie wr g n 1 (L6 k f m)∧w.grownBy wr (some g)) (fun _ i _=>n - (intOf i).toNat)
  case atStart=>exact ⟨0,Nat.zero_le _,rfl,by simp,by rw [Nt];exact hL,hW⟩
  case round =>
   clear hL hW
   obtain ⟨m,hk,rfl,rfl,hL,hW⟩:=hrel
   by_cases hlt:m<n
   ·have e0:=hL.cell hlt (show 0<1 by omega)
    simp only [Nat.add_zero,Nat.mul_one] at e0
    have f1:=hL.frozen
    go_wp2
    go_roundw
    case rel=>exact ⟨m+1,by omega,by go_num,by go_num,(hL.set1 hlt (.int .i64 (k+m))).congr (fun i j _ _=>I6 rfl i j),qF hW rfl⟩
    case measure=>simp [intOf];omega
   ·have:m=n:=by omega
    subst this
    go_wp2
    go_ret
    exact ⟨rfl,.inr ⟨g,cap,by rw [lY],hl,by rw [lY];exact hL.congr (KJ k f m)⟩,hW⟩
theorem uK (n:Nat) (f:Nat→Nat→Value) (lo:Nat) (v:Value) (k:Int) (w:World) (h:New w lo v n 3 f) (h0:0≤k) (h1:k≤1099511627776) (hm:n≤1048576) :
  Calls Tryz.prog 145 #[v,.int .i64 k] w fun r w'=>r=.returned (.int .i64 (k+3*n))∧Jo w' lo v (lX k n)∧w.grownBy w' v.ownBlock:=by
 rcases h with ⟨rfl,rfl⟩|⟨g,cap,rfl,hl,hL⟩
 ·go_enter Tryz.func145,Tryz.ntmps145
  go_wp2
  go_loopw [1,5] (fun q i wr=>i=.int .i64 0∧q=.int .i64 k∧wr=w) (fun _ i _=>0 - (intOf i).toNat)
  case atStart=>exact ⟨rfl,rfl,rfl⟩
  case round =>
   obtain ⟨rfl,rfl,rfl⟩:=hrel
   go_wp2
   go_ret
   exact ⟨by simp,.inl ⟨rfl,rfl⟩,L9 _ _⟩
 ·have hW:=L9 w (some g)
  go_enter Tryz.func145,Tryz.ntmps145
  go_wp2
  go_loopw [1,5] (fun q i wr=>∃ m:Nat,m≤n∧i=.int .i64 m∧q=.int .i64 (k+3*m)∧Lie wr g n 3 (L8 k f m)∧w.grownBy wr (some g)) (fun _ i _=>n - (intOf i).toNat)
  case atStart=>exact ⟨0,Nat.zero_le _,rfl,by simp,by rw [Nu];exact hL,hW⟩
  case round =>
   clear hL hW
   obtain ⟨m,hk,rfl,rfl,hL,hW⟩:=hrel
   by_cases hlt:m<n
   ·have e0:=hL.cell hlt (show 0<3 by omega)
    have e1:=hL.cell hlt (show 1<3 by omega)
    have e2:=hL.cell hlt (show 2<3 by omega)
    simp only [Nat.add_zero] at e0
    have f1:=hL.frozen
    go_wp2
    go_roundw
    case rel=>exact ⟨m+1,by omega,by go_num,by go_num,(hL.set3 hlt (C3.val ⟨k+3*(m:Int),k+3*(m:Int)+1,k+3*(m:Int)+1+1⟩)).congr (fun i j _ _=>I7 (by congr 1;omega) i j),qF (qF (qF hW rfl) rfl) rfl⟩
    case measure=>simp [intOf];omega
   ·have:m=n:=by omega
    subst this
    go_wp2
    go_ret
    exact ⟨rfl,.inr ⟨g,cap,by rw [o6],hl,by rw [o6];exact hL.congr (KL k f m)⟩,hW⟩
theorem mZ (n:Nat) (lo:Nat) (v:Value) (k:Int) (w:World) (h:yj w lo v (kV k n)) (h0:0≤k) (h1:k≤1099511627776) (hm:n≤1048576) :
  Calls Tryz.prog 44 #[v,.int .i64 k] w fun r w'=>r=.returned (.int .i64 (k+n))∧Below w.heap.size w w':=by
 obtain ⟨a,cap,rfl,hS⟩:=h.seg
 rw [lY] at hS ⊢
 have HS:=Lib.hid hS
 clear hS h
 go_enter Tryz.func44,Tryz.ntmps44
 go_wp2
 go_loopw [1,5] (fun q i wr=>∃ m:Nat,m≤n∧i=.int .i64 m∧q=.int .i64 (k+m)∧Below w.heap.size w wr) (fun _ i _=>n - (intOf i).toNat)
 case atStart=>exact ⟨0,Nat.zero_le _,rfl,by simp,Below.refl _ _⟩
 case round =>
  obtain ⟨m,hk,rfl,rfl,hB⟩:=hrel
  by_cases hlt:m<n
  ·obtain h0'|⟨b,o,rfl,hb,hc⟩:=HS.out
   ·omega
   have c0:=(hB.cell (p:=⟨b,o+m*1+0,none⟩) hb).trans (hc m 0 hlt tO)
   simp only [fP,Nat.add_zero,Nat.mul_one,sG hlt] at c0
   clear hc
   have hk0:(0:Int)≤(m:Int):=by omega
   have hk1:(m:Int)<(n:Int):=by omega
   go_wp2
   go_roundw
   case rel=>exact ⟨m+1,by omega,by go_num,by go_num,by exact zB⟩
   case measure=>simp [intOf];omega
  ·have:m=n:=by omega
   subst this
   go_wp2
   go_ret
   exact ⟨rfl,hB⟩
end
section
open Go.RowKit
def uL (K:Nat) (k:Int) (i j:Nat):Value:=.int .i64 (k+(K:Int)*(i:Int)+(j:Int))
def l8 (f z:Nat→Nat→Value) (m i j:Nat):Value:=if i<m then f i j else z i j
theorem qI (f z:Nat→Nat→Value):l8 f z 0=z:=by funext i j;simp [l8]
theorem nG (f z:Nat→Nat→Value) (n K:Nat):∀ i j,i<n→j<K→l8 f z n i j=f i j:=fun i j hi _=>by simp only [l8,if_pos hi]
theorem lZ {f z:Nat→Nat→Value} {v:Nat→Value} {m j:Nat} (h:v j=f m j) (i:Nat):(if i=m then v j else l8 f z m i j)=l8 f z (m+1) i j:=by
 unfold l8
 by_cases e:i=m
 ·subst e;rw [if_pos rfl,if_pos tO,h]
 ·rw [if_neg e]
  by_cases e2:i<m
  ·rw [if_pos e2,if_pos tO]
  ·rw [if_neg e2,if_neg tO]
theorem Lie.set14 {w:World} {b n:Nat} {f:Nat→Nat→Value} (h:Lie w b n 14 f) {i:Nat} (hi:i<n) (v:Nat→Value) :
  Lie ((((((((((((((w.setCell ⟨b,i*14,none⟩ (v 0)).setCell ⟨b,i*14+1,none⟩ (v 1)).setCell ⟨b,i*14+2,none⟩ (v 2)).setCell ⟨b,i*14+3,none⟩ (v 3)).setCell ⟨b,i*14+4,none⟩ (v 4)).setCell ⟨b,i*14+5,none⟩ (v 5)).setCell ⟨b,i*14+6,none⟩ (v 6)).setCell ⟨b,i*14+7,none⟩ (v 7)).setCell ⟨b,i*14+8,none⟩ (v 8)).setCell ⟨b,i*14+9,none⟩ (v 9)).setCell ⟨b,i*14+10,none⟩ (v 10)).setCell ⟨b,i*14+11,none⟩ (v 11)).setCell ⟨b,i*14+12,none⟩ (v 12)).setCell ⟨b,i*14+13,none⟩ (v 13)) b n 14 (fun i' j'=>if i'=i then v j' else f i' j'):=by
 refine ((((((((((((((h.set hi (j:=0) tO (v 0)).set hi (j:=1) tO (v 1)).set hi (j:=2) tO (v 2)).set hi (j:=3) tO (v 3)).set hi (j:=4) tO (v 4)).set hi (j:=5) tO (v 5)).set hi (j:=6) tO (v 6)).set hi (j:=7) tO (v 7)).set hi (j:=8) tO (v 8)).set hi (j:=9) tO (v 9)).set hi (j:=10) tO (v 10)).set hi (j:=11) tO (v 11)).set hi (j:=12) tO (v 12)).set hi (j:=13) tO (v 13)).congr fun i' j' _ hj=>?_
 have:j'=0∨j'=1∨j'=2∨j'=3∨j'=4∨j'=5∨j'=6∨j'=7∨j'=8∨j'=9∨j'=10∨j'=11∨j'=12∨j'=13:=by omega
 rcases this with rfl|rfl|rfl|rfl|rfl|rfl|rfl|rfl|rfl|rfl|rfl|rfl|rfl|rfl <;> by_cases e:i'=i <;> simp [e]
theorem Lie.set7 {w:World} {b n:Nat} {f:Nat→Nat→Value} (h:Lie w b n 7 f) {i:Nat} (hi:i<n) (v:Nat→Value) :
  Lie (((((((w.setCell ⟨b,i*7,none⟩ (v 0)).setCell ⟨b,i*7+1,none⟩ (v 1)).setCell ⟨b,i*7+2,none⟩ (v 2)).setCell ⟨b,i*7+3,none⟩ (v 3)).setCell ⟨b,i*7+4,none⟩ (v 4)).setCell ⟨b,i*7+5,none⟩ (v 5)).setCell ⟨b,i*7+6,none⟩ (v 6)) b n 7 (fun i' j'=>if i'=i then v j' else f i' j'):=by
 refine (((((((h.set hi (j:=0) tO (v 0)).set hi (j:=1) tO (v 1)).set hi (j:=2) tO (v 2)).set hi (j:=3) tO (v 3)).set hi (j:=4) tO (v 4)).set hi (j:=5) tO (v 5)).set hi (j:=6) tO (v 6)).congr fun i' j' _ hj=>?_
 have:j'=0∨j'=1∨j'=2∨j'=3∨j'=4∨j'=5∨j'=6:=by omega
 rcases this with rfl|rfl|rfl|rfl|rfl|rfl|rfl <;> by_cases e:i'=i <;> simp [e]
theorem Row.set14 {w:World} {b n:Nat} {t:TypeId} {f:Nat→Nat→Value} (h:Row w b t n 14 f) {i:Nat} (hi:i<n) (v:Nat→Value) :
  Row ((((((((((((((w.setCell ⟨b,i*14,none⟩ (v 0)).setCell ⟨b,i*14+1,none⟩ (v 1)).setCell ⟨b,i*14+2,none⟩ (v 2)).setCell ⟨b,i*14+3,none⟩ (v 3)).setCell ⟨b,i*14+4,none⟩ (v 4)).setCell ⟨b,i*14+5,none⟩ (v 5)).setCell ⟨b,i*14+6,none⟩ (v 6)).setCell ⟨b,i*14+7,none⟩ (v 7)).setCell ⟨b,i*14+8,none⟩ (v 8)).setCell ⟨b,i*14+9,none⟩ (v 9)).setCell ⟨b,i*14+10,none⟩ (v 10)).setCell ⟨b,i*14+11,none⟩ (v 11)).setCell ⟨b,i*14+12,none⟩ (v 12)).setCell ⟨b,i*14+13,none⟩ (v 13)) b t n 14 (fun i' j'=>if i'=i then v j' else f i' j'):=by
 refine ((((((((((((((h.set hi (j:=0) tO (v 0)).set hi (j:=1) tO (v 1)).set hi (j:=2) tO (v 2)).set hi (j:=3) tO (v 3)).set hi (j:=4) tO (v 4)).set hi (j:=5) tO (v 5)).set hi (j:=6) tO (v 6)).set hi (j:=7) tO (v 7)).set hi (j:=8) tO (v 8)).set hi (j:=9) tO (v 9)).set hi (j:=10) tO (v 10)).set hi (j:=11) tO (v 11)).set hi (j:=12) tO (v 12)).set hi (j:=13) tO (v 13)).congr fun i' j' _ hj=>?_
 have:j'=0∨j'=1∨j'=2∨j'=3∨j'=4∨j'=5∨j'=6∨j'=7∨j'=8∨j'=9∨j'=10∨j'=11∨j'=12∨j'=13:=by omega
 rcases this with rfl|rfl|rfl|rfl|rfl|rfl|rfl|rfl|rfl|rfl|rfl|rfl|rfl|rfl <;> by_cases e:i'=i <;> simp [e]
theorem Row.set7 {w:World} {b n:Nat} {t:TypeId} {f:Nat→Nat→Value} (h:Row w b t n 7 f) {i:Nat} (hi:i<n) (v:Nat→Value) :
  Row (((((((w.setCell ⟨b,i*7,none⟩ (v 0)).setCell ⟨b,i*7+1,none⟩ (v 1)).setCell ⟨b,i*7+2,none⟩ (v 2)).setCell ⟨b,i*7+3,none⟩ (v 3)).setCell ⟨b,i*7+4,none⟩ (v 4)).setCell ⟨b,i*7+5,none⟩ (v 5)).setCell ⟨b,i*7+6,none⟩ (v 6)) b t n 7 (fun i' j'=>if i'=i then v j' else f i' j'):=by
 refine (((((((h.set hi (j:=0) tO (v 0)).set hi (j:=1) tO (v 1)).set hi (j:=2) tO (v 2)).set hi (j:=3) tO (v 3)).set hi (j:=4) tO (v 4)).set hi (j:=5) tO (v 5)).set hi (j:=6) tO (v 6)).congr fun i' j' _ hj=>?_
 have:j'=0∨j'=1∨j'=2∨j'=3∨j'=4∨j'=5∨j'=6:=by omega
 rcases this with rfl|rfl|rfl|rfl|rfl|rfl|rfl <;> by_cases e:i'=i <;> simp [e]
end
section
open Go.RowKit
theorem I8 (w:World):(isAgg 164).run Tryz.prog w=.ok true w:=by simp [isAgg,go_sem]
theorem KM (w:World):(sizeOf 164).run Tryz.prog w=.ok 14 w:=by simp [go_sem]
theorem CY {w:World} {b:Nat} (h:okO 14 (hp w b)=true):(loadVar 164 ⟨b,0,none⟩).run Tryz.prog w=.ok (.agg (gP (hp w b))) w:=lg I8 KM h
theorem Fz {w:World} {b:Nat} (h:okO 14 (hp w b)=true):(Instr.loadAt 164 (.pointer (some ⟨b,0,none⟩))).run Tryz.prog w=.ok (.agg (gP (hp w b))) w:=by
 simp only [Instr.loadAt,Instr.sureAddr,Sem.run_bind,Sem.run_pure,Result.andThen_ok,CY h]
def sH (x:Value):Sem Value:=Instr.loadAt 164 x
theorem I9 (x:Value):Instr.loadAt 164 x=sH x:=by unfold sH;simp
theorem F3 {w:World} {b:Nat} (h:okO 14 (hp w b)=true):(sH (.pointer (some ⟨b,0,none⟩))).run Tryz.prog w=.ok (.agg (gP (hp w b))) w:=Fz h
theorem IA (w:World):(isAgg 64).run Tryz.prog w=.ok true w:=by simp [isAgg,go_sem]
theorem KN (w:World):(sizeOf 64).run Tryz.prog w=.ok 6 w:=by simp [go_sem]
theorem CZ {w:World} {b:Nat} (h:okO 6 (hp w b)=true):(loadVar 64 ⟨b,0,none⟩).run Tryz.prog w=.ok (.agg (gP (hp w b))) w:=lg IA KN h
theorem F4 {w:World} {b:Nat} (h:okO 6 (hp w b)=true):(Instr.loadAt 64 (.pointer (some ⟨b,0,none⟩))).run Tryz.prog w=.ok (.agg (gP (hp w b))) w:=by
 simp only [Instr.loadAt,Instr.sureAddr,Sem.run_bind,Sem.run_pure,Result.andThen_ok,CZ h]
def Md (x:Value):Sem Value:=Instr.loadAt 64 x
theorem F5 {w:World} {b:Nat} (h:okO 6 (hp w b)=true):(Md (.pointer (some ⟨b,0,none⟩))).run Tryz.prog w=.ok (.agg (gP (hp w b))) w:=F4 h
attribute [go_sem] F3 F5
attribute [local go_sem ↓] aH aM aN aA ax
theorem oU (k e:Int) (w:World):Calls Tryz.prog 178 #[.agg #[.int .i64 k,.int .i64 e]] w fun r w'=>r=.returned (.agg #[.int .i64 k,.int .i64 e])∧Below w.heap.size w w':=by
 go_enter Tryz.func178,Tryz.ntmps178
 go_wp2
 exact bodyPost_ret (v:=.agg #[.int .i64 k,.int .i64 e]) (by simp [results,Tryz.results178,go_sem, *]) rfl ⟨rfl,by exact zB⟩
theorem Da (h:Ha) (w:World):Calls Tryz.prog 140 #[.agg (aa h)] w fun r w'=>r=.returned (.agg (aa h))∧Below w.heap.size w w':=by
 go_enter Tryz.func140,Tryz.ntmps140
 go_wp2_with fail;refine au w zB fun bb=>?_;refine (oU h.code h.elem _).mono ?_;rintro _ w1 ⟨rfl,ag⟩;obtain ⟨aV,ak,zz⟩:=DX bb ag (b:=w.heap.size);(try simp at ak);(try simp [go_sem] at zz);replace bX:=DW zz;clear zz ag bb
 go_wp2
 exact bodyPost_ret (gH Tryz.results140 rfl (aj h tZ)) rfl ⟨rfl,by exact zB⟩
theorem Ah (k e:Int) (w:World):Calls Tryz.prog 180 #[.agg #[.int .i64 k,.int .i64 e],.agg #[.int .i64 k,.int .i64 e]] w fun r w'=>r=.returned (.bool true)∧Below w.heap.size w w':=by
 go_enter Tryz.func180,Tryz.ntmps180
 go_wp2
 all_goals go_ret
 exact ⟨rfl,by exact zB⟩
theorem Db (h:Ha) (w:World):Calls Tryz.prog 143 #[.agg (aa h),.agg (aa h)] w fun r w'=>r=.returned (.bool true)∧Below w.heap.size w w':=by
 go_enter Tryz.func143,Tryz.ntmps143
 go_wp2
 go_ret
 exact ⟨rfl,by exact zB⟩
end
section
open Go.RowKit
theorem Dc {w:World} {lo lo':Nat} {e e':TypeId} {k k' n n':Nat} {v v':Value} {xs xs':List Value} (h:w.ownsRow lo e k v n xs) (h':w.ownsRow lo' e' k' v' n' xs') (hne:e≠e'):v.ownBlock=none∨v.ownBlock≠v'.ownBlock:=by
 rcases h.2 with ⟨rfl,_⟩|⟨g,cap,cur,rfl,_,hg,_⟩
 ·exact .inl rfl
 ·refine .inr fun e2=>?_
  rcases h'.2 with ⟨rfl,_⟩|⟨g',cap',cur',rfl,_,hg',_⟩
  ·cases e2
  ·simp [Value.ownBlock] at e2
   subst e2
   rw [hg] at hg'
   simp at hg'
   exact hne hg'.2
theorem KO (w:World) (r:Option Nat):w.grownBy w r:=⟨rfl,rfl,rfl,Nat.le_refl _,fun _ _ _=>rfl⟩
theorem F6:(Tryz.prog.info? 49).map (fun i=>(i.zero,i.size,i.bytes))=some (some (.agg (aa Ha.zero)),14,112):=by kernel_rfl
theorem F7:(Tryz.prog.info? 44).map (fun i=>(i.zero,i.size,i.bytes))=some (some (.agg (fq De.zero)),7,56):=by kernel_rfl
theorem Seg.news {w:World} {B n k:Nat} {b:Option Addr} {f:Nat→Nat→Value} {xs:List Value} (h:Seg w B b n k f) (hl:xs.length=n*k) (hg:∀ i j,i<n→j<k→xs[i*k+j]?=some (f i j)):∀ ad,b=some ad→∀ j u,xs[j]?=some u→w.cell? (ad.add j)=some u:=by
 intro ad e j u hu
 have hj:j<n*k:=by rw [← hl];exact (List.getElem?_eq_some_iff.1 hu).1
 have hk:0<k:=Nat.pos_of_ne_zero fun e=>by subst e;simp at hj
 rcases h with h0|⟨b',o',e2,_,hc⟩
 ·subst h0;simp at hj
 ·subst e
  simp at e2
  subst e2
  have e3:j=j / k*k+j % k:=by have:=Nat.div_add_mod j k;rw [Nat.mul_comm] at this;omega
  have hi:j / k<n:=Nat.div_lt_of_lt_mul (by rw [Nat.mul_comm];exact hj)
  have hm:j % k<k:=Nat.mod_lt _ hk
  have g1:=hg (j / k) (j % k) hi hm
  rw [← e3] at g1
  rw [g1] at hu
  simp at hu
  rw [← hu,← hc (j / k) (j % k) hi hm]
  congr 1
  by_cases e:j=0
  ·subst e;simp [Addr.add]
  ·simp [Addr.add,e];omega
end
section
open Go.RowKit
attribute [local go_sem ↓] aH aM aN aA ax
end
end Go.Proofs.YtffhjmepfojhnaaGreat
