/-
  Is each thing there once, of the reference model; lists lie in memory and hold at most 2 ^ 40 elements.
-/
import Derived.Test.YtffhjmepfojhnaaGreatS15
import Derived.Test.YtffhjmepfojhnaaGreatS01
import Derived.Test.YtffhjmepfojhnaaGreatS38
import Derived.Test.YtffhjmepfojhnaaGreatS37
import Derived.Test.YtffhjmepfojhnaaGreatS27
import Derived.Test.YtffhjmepfojhnaaGreatS16
import Derived.Test.YtffhjmepfojhnaaGreatS04
import Derived.Deep.RegionHeld3
import Derived.Deep.DeepCutAuto
set_option maxRecDepth 100000
set_option maxHeartbeats 4000000
set_option linter.unusedSimpArgs false
set_option linter.unusedVariables false
namespace Go.Proofs.YtffhjmepfojhnaaGreat
open _root_.Go.Proofs.Tryz
open Go.RowKit
attribute [local simp] aP
attribute [local go_sem ↓] aQ aY aZ gK aN
attribute [local go_sem] fF
theorem Kn {l:List Int} {k:Nat} {p:Int→Bool} (m:k<l.length) (h:(l.take k).all p=true) (e:p (l.getD k 0)=true):(l.take (k+1)).all p=true:=by
 rw [iM l k 0 m,List.all_append,h]
 simp only [List.all_cons,List.all_nil,e]
 rfl
theorem Nn {l:List Int} {k:Nat} {p:Int→Bool} (m:k<l.length) (e:p (l.getD k 0)=false):l.all p=false:=by
 rw [Bool.eq_false_iff]
 intro h
 have:=List.all_eq_true.1 h (l.getD k 0) (by simp [List.getD,m])
 rw [this] at e
 cases e
theorem yE {w W:World} (h:Below w w W) (n:Nat):Below w w (W.drewN n):=⟨h.os,h.tape,h.output,h.size,h.block⟩
theorem El {x:Wo} (m:quietIn x=true):aW x.ch=true∧x.deals.length≤1000:=by
 unfold quietIn at m
 have q:=(Bool.and_eq_true_iff.1 m).1
 unfold bC at q
 obtain ⟨h1,_,_,r,_⟩:=zl (Bool.and_eq_true_iff.1 q).1
 exact ⟨h1,r⟩
theorem Ko (c:Ch):(keptIn c).length≤c.cells.length:=by
 unfold keptIn
 split
 ·simp only [List.length_map];exact oK 2 c.cells 0
 ·simp
theorem Em (l:List Int):∀ i j,i<l.length→j<1→(ints l)[i*1+j]?=some (jT l i j):=fun i j m q=>by
 have:j=0:=by omega
 subst this
 simp [ints,jT,List.getD,m]
theorem aG.opens2 {w:World} {lo:Nat} {v:Value} {l:List Int} (h:aG w lo v l):∃ a p,v=.slice a l.length p∧fD w w a l∧(a=none→l.length=0∧p=0):=lY (f:=jT l) h (Em l)
theorem aG.app {w:World} {lo:Nat} {v:Value} {l m:List Int} (h:w.ownsRow lo 2 1 v (l.length+m.length) (ints l ++ ints m)):aG w lo v (l ++ m):=by
 unfold aG
 rw [List.length_append,show ints (l ++ m)=ints l ++ ints m by simp [ints]]
 exact h
theorem BH (x:Wo) (a b d e:Option Addr) (p q r s0:Nat) (w:World) (h1:fA w w a x.ch.cells) (z1:a=none→p=0) (h2:fD w w b x.ch.words) (z2:b=none→q=0) (h3:pF w w d x.hands) (O:pG w w e x.deals) (m1:x.ch.cells.length≤1099511627776) (m3:x.hands.length≤1099511627776) (m4:x.deals.length≤1099511627776) :
  Calls prog 19 #[kZ x a b d e p q r s0] w fun r' w'=>r'=.returned (.bool (o7 x))∧Below w w w':=by
 have H1:=aA h1
 have H2:=aA h2
 have H3:=aA h3
 have H4:=aA O
 have Z1:=aA z1
 have Z2:=aA z2
 clear h1 h2 h3 O z1 z2
 cases hk:quietIn x with
 | false =>
  have e0:o7 x=false:=by simp [o7,hk]
  rw [e0]
  go_enter func19,ntmps19
  go_wp2_with fail;refine aK w zB fun D=>?_;refine (sM x a b d e p q r s0 _ (aT H1 D) Z1.out (aT H2 D) Z2.out (aT H3 D) (aT H4 D) m1 m3 m4).mono ?_;rintro _ w1 ⟨rfl,u⟩;have a1:Below w w w1:=bT D u;have M:=u.size;(try simp at M);have z:=hQ u (b:=w);(try simp [go_sem] at z);(try clear y N L I);have y:=z;clear z;obtain ⟨N,L,I⟩:=bO y;clear u D
  rw [hk]
  go_wp2
  go_ret
  exact ⟨rfl,by exact zB⟩
 | true =>
  have HE:Hid (o7 x=((kI x.deals).all (fun n=>jJ (kI x.deals) n == jJ (mZ x.deals ++ keptIn x.ch) n) && (kI x.deals).length == (mZ x.deals ++ keptIn x.ch).length)):=by simp [Hid,o7,hk]
  obtain ⟨i0,ad,ag,ah,ai⟩:=info_parts kL
  obtain ⟨a2,ab⟩:=El hk
  have aa:=(eU a2).1
  clear a2
  have KK:=aA (CQ x.ch)
  have SS:=aA (Dw x.deals)
  have GG:=aA (wM x.deals)
  have ls:(kI x.deals).length≤x.deals.length:=by have:=zH x.deals x.deals;rwa [List.take_length] at this
  have lg:(mZ x.deals).length≤x.deals.length:=by have:=Dx x.deals x.deals;rwa [List.take_length] at this
  have lk:(keptIn x.ch).length≤x.ch.cells.length:=Ko x.ch
  have aj:(mZ x.deals).length+(keptIn x.ch).length≤1099511627776:=by omega
  clear aa ab
  go_enter func19,ntmps19
  go_wp2_with fail;refine aK w zB fun D=>?_;refine (sM x a b d e p q r s0 _ (aT H1 D) Z1.out (aT H2 D) Z2.out (aT H3 D) (aT H4 D) m1 m3 m4).mono ?_;rintro _ w1 ⟨rfl,u⟩;have a1:Below w w w1:=bT D u;have M:=u.size;(try simp at M);have z:=hQ u (b:=w);(try simp [go_sem] at z);(try clear y N L I);have y:=z;clear z;obtain ⟨N,L,I⟩:=bO y;clear u D
  rw [hk]
  generalize kI x.deals=A at *
  generalize mZ x.deals=T at *
  generalize keptIn x.ch=R at *
  go_wp2_with fail;refine aK w zB fun D=>?_;refine (SS.out e s0 _ (aT H4 D) m4).mono ?_;rintro _ J ⟨⟨vs,rfl,os⟩,G⟩;have ak:Below w w J:=bT D G;have a8:=G.size;(try simp at a8);have z:=hQ G (b:=w);(first|simp [go_sem,y,I] at z|simp [go_sem] at z|skip);(try clear y N L I);have y:=z;clear z;obtain ⟨N,L,I⟩:=bO y;clear G D
  obtain ⟨sa,sc,rfl,a7⟩:=aG.seg os
  clear os SS
  have LS:=aA a7
  clear a7
  have F:Below w w J:=by exact zB
  go_upto_region 4 with fail
  refine iT [[],[0],[0,1],[],[3],[3,4],[0,1,2,3,4,5],[0,1,2,3,4,5,6]] [12,13,14,15,16,17,18,4] (fun l s wx=>(Below J J wx)∧(l 0=true→s 12=.pointer (some ⟨w,7,none⟩))∧(l 1=true→s 13=.slice e x.deals s0)∧(l 2=true→l 6=false→aG wx J (s 14) T)∧(l 3=true→s 15=.pointer (some ⟨w,0,none⟩))∧(l 4=true→s 16=.agg #[x.ch.cap,x.ch.sent,x.ch.got,x.ch.fin,.slice a x.ch.cells p,.slice b x.ch.words q])∧(l 5=true→l 6=false→aG wx J (s 17) R)∧(l 6=true→aG wx J (s 18) (T ++ R))∧(l 7=true→aG wx J (s 4) (T ++ R))) (fun s=>⟨(Below.refl _ _).drew,nB,nB,nB,nB,nB,nB,nB,nB⟩) ?_ ?_
  refine ⟨?_,?_,?_,?_,?_,?_,?_,?_,trivial⟩;iterate 8 (intro l s wx hl hd hn m K U;rotate_left)
  ·intro l s w4 E m
   have Y:Below J J w4:=m.1
   have oR:=((jD m) (E 7 rfl))
   obtain ⟨ra,rc,er,a6,_⟩:=aG.opens2 oR
   simp only [er]
   clear oR er m E
   have V:Below w w w4:=bT F Y
   replace LS:=aA ((LS.out.below Y).more (Below.size Y))
   have lr:(T ++ R).length≤1099511627776+40:=by rw [List.length_append];omega
   have mr:(T ++ R).length≤1099511627776:=by rw [List.length_append];exact aj
   generalize T ++ R=rl at *
   have LR:=aA a6
   clear a6
   have ms:A.length≤1099511627776:=by omega
   go_wp2
   go_loopw [5] (fun i wr=>∃ k:Nat,k≤A.length∧i=.int .i64 k∧Hid ((A.take k).all (fun n=>jJ A n == jJ rl n)=true)∧Below w4 w4 wr) (fun i _=>A.length - (intOf i).toNat)
   case atStart=>exact ⟨0,Nat.zero_le _,rfl,rfl,by first|exact Below.refl _ _|exact zB⟩
   case round =>
    obtain ⟨k,hk,rfl,E,H⟩:=hrel
    by_cases a0:k<A.length
    ·have al:(0:Int)≤(k:Int):=by omega
     have am:(k:Int)<(A.length:Int):=by omega
     obtain ⟨lb,lo,rfl,af,a5⟩:∃ b o,sa=some ⟨b,o,none⟩∧b<w4.heap.size∧(∀ i j,i<A.length→j<1→w4.cell? ⟨b,o+i*1+j,none⟩=some (jT A i j)):=by
      rcases LS.out with h0|h0
      ·omega
      ·exact h0
     have c2:wr.cell? ⟨lb,lo+k,none⟩=some (jT A k 0):=(H.cell (p:=⟨lb,lo+k,none⟩) af).trans (by have:=a5 k 0 a0 tO;simpa using this)
     clear a5
     simp only [jT] at c2
     generalize a3:A.getD k 0=n at c2
     have HC:=aA a3
     clear a3
     by_cases a4:jJ A n=jJ rl n
     ·go_wp2_with fail
      go_quiet (first|(go_at_call_of 62 A.length;refine Calls.quiet_of_same (mI A n _ sc _ ?_ ms);exact (LS.out.below (yE H _)).more (yE H _).size)|(go_at_call_of 62 rl.length;refine Calls.quiet_of_same (mI rl n _ rc _ ?_ mr);exact (LR.out.below (yE H _)).more (yE H _).size))
      go_wp2
      go_roundw
      case rel=>exact ⟨k+1,by omega,by go_num,Kn a0 E.out (by rw [HC.out];simp [a4]),yE H _⟩
      case measure=>simp [intOf];omega
     ·go_wp2_with fail
      go_quiet (first|(go_at_call_of 62 A.length;refine Calls.quiet_of_same (mI A n _ sc _ ?_ ms);exact (LS.out.below (yE H _)).more (yE H _).size)|(go_at_call_of 62 rl.length;refine Calls.quiet_of_same (mI rl n _ rc _ ?_ mr);exact (LR.out.below (yE H _)).more (yE H _).size))
      go_wp2
      go_ret
      exact ⟨dB (by rw [HE.out,Nn a0 (by rw [HC.out];simp [a4])];rfl),bT V (yE H _)⟩
    ·have:k=A.length:=by omega
     subst this
     have Z:=E.out
     rw [List.take_length] at Z
     by_cases ac:A.length=rl.length
     ·go_wp2
      go_ret
      exact ⟨dB (by rw [HE.out,Z];simp [ac]),bT V H⟩
     ·go_wp2
      go_ret
      exact ⟨dB (by rw [HE.out,Z,Bool.eq_iff_iff];simp <;> omega),bT V H⟩
  ·go_simp
   refine U.out (upd s 12 (.pointer (some ⟨w,7,none⟩))) _ _ (by simp [aC] <;> rfl) (kA (kX (fun _=>rfl) id) m.out)
  ·have e0:=(m.out.2.1 (hd 0 rfl))
   have z:=bO (eP y m.out.1)
   have z7:=z.1 7
   simp [go_sem] at z7
   go_simp
   refine U.out (upd s 13 (.slice e x.deals s0)) _ _ (by simp [aC,e0] <;> rfl) (kB (kX (fun _=>rfl) id) m.out)
  ·have e1:=(m.out.2.2.1 (hd 1 rfl))
   go_simp
   go_at_call 29
   refine (GG.out e s0 _ ((H4.out.below (bT F m.out.1)).more (Below.size (bT F m.out.1))) m4).mono ?_
   rintro _ wy ⟨⟨vg,rfl,og⟩,hE⟩
   refine U.out (upd s 14 (vg)) _ _ (by simp [aC,e1] <;> rfl) (kX (bT m.out.1 hE) (kB (kX (fun _ _=>aH og (Below.size m.out.1)) (kB (kX (fun h=>fun O=>own_below (((jC m.out).2.2.1 h) O) hE) (kX (nU (hn 6 rfl)) (fun _=>nU (hn 7 rfl))))))) m.out)
  ·go_simp
   refine U.out (upd s 15 (.pointer (some ⟨w,0,none⟩))) _ _ (by simp [aC] <;> rfl) (kC (kX (fun _=>rfl) id) m.out)
  ·have e3:=(m.out.2.2.2.2.1 (hd 3 rfl))
   have z:=bO (eP y m.out.1)
   have z0:=z.1 0
   have z1:=z.1 1
   have z2:=z.1 2
   have z3:=z.1 3
   have z4:=z.1 4
   have z5:=z.1 5
   simp [go_sem] at z0 z1 z2 z3 z4 z5
   go_simp
   refine U.out (upd s 16 (.agg #[x.ch.cap,x.ch.sent,x.ch.got,x.ch.fin,.slice a x.ch.cells p,.slice b x.ch.words q])) _ _ (by simp [aC,e3] <;> rfl) (kC (kA (kX (fun _=>rfl) id)) m.out)
  ·have e4:=((jC m.out).2.1 (hd 4 rfl))
   go_simp
   go_at_call 61
   refine (KK.out a b p q _ ((H1.out.below (bT F m.out.1)).more (Below.size (bT F m.out.1))) ((H2.out.below (bT F m.out.1)).more (Below.size (bT F m.out.1))) m1).mono ?_
   rintro _ wy ⟨⟨vk,rfl,ok⟩,hE⟩
   refine U.out (upd s 17 (vk)) _ _ (by simp [aC,e4] <;> rfl) (kX (bT m.out.1 hE) (kB (kX (fun h=>fun O=>own_below ((m.out.2.2.2.1 h) O) hE) (kB (kX (fun _ _=>aH ok (Below.size m.out.1)) (kX (nU (hn 6 rfl)) (fun _=>nU (hn 7 rfl))))))) m.out)
  ·have X:=m.out.1
   have og:=(m.out.2.2.2.1 (hd 2 rfl)) hl
   have ok:=((jC m.out).2.2.1 (hd 5 rfl)) hl
   obtain ⟨ka,kc,ek,ae,kz⟩:=aG.opens2 ok
   refine tK rfl _ _ 29 rfl J.heap.size 2 i0 _ 1 8 underlying29 ad ag ah ai rfl (by decide) (s 14) T.length (ints T) rfl og ka R.length kc (ints R) ek kz (by simp [ints]) (Seg.news ae (by simp [ints]) (Em R)) (by simp [ints,Value.oneCell']) (by unfold maxLen;omega) tO (Below.size X) ?_
   intro v' w' o' g'
   have a9:Below J J w':=iN X g' (Below.size X) (fun q hq=>(og.lt q hq).1)
   refine U.out (upd s 18 (v')) _ _ (by simp [aC,Act.put] <;> rfl) (kX (a9) (kB (kX (fun _ O=>nU O (show upd l 6 true 6=true from rfl)) (kB (kX (fun _ O=>nU O (show upd l 6 true 6=true from rfl)) (kX (fun _=>aG.app o') (fun _=>nU (hn 7 rfl))))))) m.out)
  ·go_simp
   refine U.out (upd s 4 ((s 18))) _ _ (by simp [aC] <;> rfl) (kD (fun _=>fun _=>((jC m.out).2.2.2.1 (hd 6 rfl))) m.out)
end Go.Proofs.YtffhjmepfojhnaaGreat
