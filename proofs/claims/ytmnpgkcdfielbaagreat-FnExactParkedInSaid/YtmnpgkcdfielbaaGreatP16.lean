/-
  The contracts of the laws' helpers on channels; lists of at most 1048576 elements.
  The laws' helpers that write numbers into a list of the call's own, and that look for them; lists of at most 1048576 elements.
  Lists in which each cell holds the next number, and lists that are filled one element after the other; no condition.
  The laws' own toCall, toHand, eqCall, eqHand; no condition.
  The reference model's copy of a world: the same in new memory; lists lie in memory and hold at most 2 ^ 40 elements.
  The reference model's calling, on hands that are kept whole; no condition.
-/
import Derived.Test.YtmnpgkcdfielbaaGreatP15
import Derived.Test.YtmnpgkcdfielbaaGreatP01
import Derived.Test.YtmnpgkcdfielbaaGreatP02
import Derived.Test.YtmnpgkcdfielbaaGreatP03
import Derived.Deep.AppendLies
import Derived.BigRegion
set_option linter.unusedSimpArgs false
set_option linter.unusedVariables false
namespace Go.Proofs.YtmnpgkcdfielbaaGreat
open Go.RowKit
set_option maxRecDepth 100000 in
set_option maxHeartbeats 1000000 in
theorem toChan_any (c:Ch) (a b:Option Addr) (p q:Nat) (w:World) (h1:Seg w w.heap.size a c.cells.length 3 (cellF c.cells)) (h2:Seg w w.heap.size b c.words.length 1 (intF c.words)) (m1:c.cells.length≤1048576) (m2:c.words.length≤1048576) :
    Calls Tryz.prog 18 #[.agg #[.int .i64 c.cap,.int .i64 c.sent,.int .i64 c.got,.int .i64 c.fin,.slice a c.cells.length p,.slice b c.words.length q]] w fun r w' =>
      (∃ g1 g2,r=.returned (.agg #[.int .i64 c.cap,.int .i64 c.sent,.int .i64 c.got,.int .i64 c.fin,.slice (some ⟨g1,0,none⟩) c.cells.length c.cells.length,.slice (some ⟨g2,0,none⟩) c.words.length c.words.length])∧w.heap.size≤g1∧w.heap.size≤g2∧Row w' g1 93 c.cells.length 3 (cellF c.cells)∧Row w' g2 2 c.words.length 1 (intF c.words))∧Below w.heap.size w w':=by
  obtain ⟨cap,sent,got,fin,cells,words⟩:=c
  simp only at *
  have H1:=Lib.hid h1
  have H2:=Lib.hid h2
  clear h1 h2
  go_enter Tryz.func18,Tryz.ntmps18
  go_wp2_with fail
  refine (toCellS_any cells a p _ (((H1.out).below (by exact zB)).more (by simp;try omega)) m1).mono ?_
  rintro _ w1 ⟨rfl,hR1,hb1⟩
  have hB1:Below w.heap.size w w1:=bT (by exact zB) hb1
  have hs1:=hb1.size
  simp at hs1 hR1
  have:=fun o=>hb1.cell (p:=⟨w.heap.size,o,none⟩) (by simp;try omega)
  have:=fun o=>hb1.frozen (p:=⟨w.heap.size,o,none⟩) (by simp;try omega)
  have:=fun o=>hb1.cell (p:=⟨w.heap.size+1,o,none⟩) (by simp;try omega)
  have:=fun o=>hb1.frozen (p:=⟨w.heap.size+1,o,none⟩) (by simp;try omega)
  have:=fun o=>hb1.cell (p:=⟨w.heap.size+1+1,o,none⟩) (by simp;try omega)
  have:=fun o=>hb1.frozen (p:=⟨w.heap.size+1+1,o,none⟩) (by simp;try omega)
  have:w.heap.size<w.heap.size+1+1:=by omega
  have:w.heap.size≤w.heap.size+1:=by omega
  have:w.heap.size<w1.heap.size:=by omega
  have hl1:=hR1.lt
  go_wp2_with fail
  refine (toInt64S_any words b q _ (((H2.out).below (by exact zB)).more (by simp [World.setCell];try omega)) m2).mono ?_
  rintro _ w2 ⟨rfl,hR2,hb2⟩
  have hB2:Below w.heap.size w w2:=bT (by exact zB) hb2
  have hR3:=(hR1.setOther (a:=⟨w.heap.size+1+1,4,none⟩) (by simp;try omega) (.slice (some ⟨w.heap.size+1+1+1,0,none⟩) cells.length cells.length)).below hb2 (by simp [World.setCell];try omega)
  have hs2:=hb2.size
  simp [World.setCell] at hs2 hR2
  have:=fun o=>hb2.cell (p:=⟨w.heap.size,o,none⟩) (by simp [World.setCell];try omega)
  have:=fun o=>hb2.frozen (p:=⟨w.heap.size,o,none⟩) (by simp [World.setCell];try omega)
  have:=fun o=>hb2.cell (p:=⟨w.heap.size+1,o,none⟩) (by simp [World.setCell];try omega)
  have:=fun o=>hb2.frozen (p:=⟨w.heap.size+1,o,none⟩) (by simp [World.setCell];try omega)
  have:=fun o=>hb2.cell (p:=⟨w.heap.size+1+1,o,none⟩) (by simp [World.setCell];try omega)
  have:=fun o=>hb2.frozen (p:=⟨w.heap.size+1+1,o,none⟩) (by simp [World.setCell];try omega)
  have:w.heap.size+1+1+1≤w1.heap.size:=by omega
  clear hb1 hb2 hR1
  go_wp2_with fail
  refine bodyPost_ret (v:=.agg #[.int .i64 cap,.int .i64 sent,.int .i64 got,.int .i64 fin,.slice (some ⟨w.heap.size+1+1+1,0,none⟩) cells.length cells.length,.slice (some ⟨w1.heap.size,0,none⟩) words.length words.length]) (by simp [results,Tryz.results18,go_sem, *]) rfl ⟨⟨w.heap.size+1+1+1,w1.heap.size,rfl,by omega,by omega,?_,?_⟩,?_⟩
  · repeat (first|with_reducible exact hR3|((with_reducible refine Row.setOther ?_ ?_ _);rotate_left;(focus ((try simp);(try omega)))))
  · repeat (first|with_reducible exact hR2|((with_reducible refine Row.setOther ?_ ?_ _);rotate_left;(focus ((try simp);(try omega)))))
  · exact zB
set_option maxRecDepth 100000 in
set_option maxHeartbeats 1000000 in
theorem eqChan_any (c:Ch) (a b a' b':Option Addr) (p q p' q':Nat) (w:World) (h1:Seg w w.heap.size a c.cells.length 3 (cellF c.cells)) (h2:Seg w w.heap.size b c.words.length 1 (intF c.words)) (h3:Seg w w.heap.size a' c.cells.length 3 (cellF c.cells)) (h4:Seg w w.heap.size b' c.words.length 1 (intF c.words)) (m1:c.cells.length≤1048576) (m2:c.words.length≤1048576) :
    Calls Tryz.prog 23 #[.agg #[.int .i64 c.cap,.int .i64 c.sent,.int .i64 c.got,.int .i64 c.fin,.slice a c.cells.length p,.slice b c.words.length q],.agg #[.int .i64 c.cap,.int .i64 c.sent,.int .i64 c.got,.int .i64 c.fin,.slice a' c.cells.length p',.slice b' c.words.length q']] w fun r w'=>r=.returned (.bool true)∧Below w.heap.size w w':=by
  obtain ⟨cap,sent,got,fin,cells,words⟩:=c
  simp only at *
  have H1:=Lib.hid h1
  have H2:=Lib.hid h2
  have H3:=Lib.hid h3
  have H4:=Lib.hid h4
  clear h1 h2 h3 h4
  go_enter Tryz.func23,Tryz.ntmps23
  go_wp2_with fail
  refine (eqCellS_any cells a a' p p' _ (((H1.out).below (by exact zB)).more (by simp;try omega)) (((H3.out).below (by exact zB)).more (by simp;try omega)) m1).mono ?_
  rintro _ w1 ⟨rfl,hb1⟩
  have hB1:Below w.heap.size w w1:=bT (by exact zB) hb1
  have hs1:=hb1.size
  simp at hs1
  have:=fun o=>hb1.cell (p:=⟨w.heap.size,o,none⟩) (by simp;try omega)
  have:=fun o=>hb1.cell (p:=⟨w.heap.size+1,o,none⟩) (by simp;try omega)
  go_wp2_with fail
  refine (eqInt64S_any words b b' q q' _ (((H2.out).below hB1).more (by omega)) (((H4.out).below hB1).more (by omega)) m2).mono ?_
  rintro _ w2 ⟨rfl,hb2⟩
  have hB2:Below w.heap.size w w2:=bT hB1 hb2
  go_wp2
  go_ret
  exact ⟨rfl,hB2⟩
/-- What is left of a bound behind a list of n elements; -1 where there is too little. -/
def leftN (left:Int) (n:Nat):Int:=if left<n then -1 else left - n
def leftC (left:Int) (c:Ch):Int:=if leftN left c.cells.length<0 then -1 else leftN (leftN left c.cells.length) c.words.length
theorem leftN_no {left:Int} {n:Nat} (h:left<n):leftN left n=-1:=if_pos h
theorem leftN_yes {left:Int} {n:Nat} (h:¬ left<n):leftN left n=left - n:=if_neg h
set_option maxRecDepth 100000 in
set_option maxHeartbeats 1000000 in
theorem szChan_any (c:Ch) (a b:Option Addr) (p q:Nat) (left:Int) (w:World) (h0:0≤left) (h1:left≤1048576) (m1:c.cells.length≤maxLen) (m2:c.words.length≤maxLen) :
    Calls Tryz.prog 13 #[.agg #[.int .i64 c.cap,.int .i64 c.sent,.int .i64 c.got,.int .i64 c.fin,.slice a c.cells.length p,.slice b c.words.length q],.int .i64 left] w fun r w'=>r=.returned (.int .i64 (leftC left c))∧Below w.heap.size w w':=by
  have M1:=Lib.hid m1
  have M2:=Lib.hid m2
  clear m1 m2
  by_cases hc:left<c.cells.length
  · have HV:Hid (-1=leftC left c):=by unfold leftC;rw [leftN_no hc];rfl
    have HQ:Hid ((if left<(c.cells.length:Int) then (-1:Int) else left - c.cells.length)=-1):=if_pos hc
    clear hc
    go_enter Tryz.func13,Tryz.ntmps13
    go_wp2_with fail
    refine (szCellS_any _ _ _ _ _ h0 h1 M1.out).mono ?_
    rintro _ _ ⟨rfl,rfl⟩
    rw [HQ.out]
    go_wp2
    go_ret
    exact ⟨ret_i64 HV.out,by exact zB⟩
  · obtain ⟨l2,e2⟩:∃ l2,l2=left - c.cells.length:=⟨_,rfl⟩
    have HQ:Hid ((if left<(c.cells.length:Int) then (-1:Int) else left - c.cells.length)=l2):=by rw [e2];exact if_neg hc
    have hl0:0≤l2:=by omega
    have hl1:l2≤1048576:=by omega
    have hl2:¬ l2<0:=by omega
    have HL:Hid (leftC left c=leftN l2 c.words.length):=by unfold leftC;rw [leftN_yes hc,← e2,if_neg hl2];rfl
    clear hc e2
    by_cases hw:l2<c.words.length
    · have HV:Hid (-1=leftC left c):=by rw [HL.out,leftN_no hw];rfl
      have HQ2:Hid ((if l2<(c.words.length:Int) then (-1:Int) else l2 - c.words.length)=-1):=if_pos hw
      clear hw
      go_enter Tryz.func13,Tryz.ntmps13
      go_wp2_with fail
      refine (szCellS_any _ _ _ _ _ h0 h1 M1.out).mono ?_
      rintro _ _ ⟨rfl,rfl⟩
      rw [HQ.out]
      go_wp2_with fail
      refine (szInt64S_any _ _ _ _ _ hl0 hl1 M2.out).mono ?_
      rintro _ _ ⟨rfl,rfl⟩
      rw [HQ2.out]
      go_wp2
      go_ret
      exact ⟨ret_i64 HV.out,by exact zB⟩
    · obtain ⟨l3,e3⟩:∃ l3,l3=l2 - c.words.length:=⟨_,rfl⟩
      have HV:Hid (l3=leftC left c):=by rw [HL.out,leftN_yes hw,e3];rfl
      have HQ2:Hid ((if l2<(c.words.length:Int) then (-1:Int) else l2 - c.words.length)=l3):=by rw [e3];exact if_neg hw
      have hl3:¬ l3<0:=by omega
      clear hw e3
      go_enter Tryz.func13,Tryz.ntmps13
      go_wp2_with fail
      refine (szCellS_any _ _ _ _ _ h0 h1 M1.out).mono ?_
      rintro _ _ ⟨rfl,rfl⟩
      rw [HQ.out]
      go_wp2_with fail
      refine (szInt64S_any _ _ _ _ _ hl0 hl1 M2.out).mono ?_
      rintro _ _ ⟨rfl,rfl⟩
      rw [HQ2.out]
      go_wp2
      go_ret
      exact ⟨ret_i64 HV.out,by exact zB⟩
end Go.Proofs.YtmnpgkcdfielbaaGreat
set_option linter.unusedSimpArgs false
set_option linter.unusedVariables false
namespace Go.Proofs.YtmnpgkcdfielbaaGreat
open Go.RowKit
/- The numbers that are written. -/
def marksI (k:Int) (n:Nat):List Int:=(List.range n).map fun (i:Nat)=>k+(i:Int)
def marksC (k:Int) (n:Nat):List C3:=(List.range n).map fun (i:Nat)=>⟨k+3*(i:Int),k+3*(i:Int)+1,k+3*(i:Int)+2⟩
theorem marksI_len (k:Int) (n:Nat):(marksI k n).length=n:=by simp [marksI]
theorem marksC_len (k:Int) (n:Nat):(marksC k n).length=n:=by simp [marksC]
theorem marksI_get {k:Int} {n i:Nat} (h:i<n):(marksI k n).getD i 0=k+(i:Int):=by simp [marksI,List.getD,h]
theorem marksC_get {k:Int} {n i:Nat} (h:i<n):(marksC k n).getD i ⟨0,0,0⟩=⟨k+3*(i:Int),k+3*(i:Int)+1,k+3*(i:Int)+2⟩:=by simp [marksC,List.getD,h]
def mkI (k:Int) (f:Nat→Nat→Value) (m i j:Nat):Value:=if i<m then .int .i64 (k+(i:Int)) else f i j
def mkC (k:Int) (f:Nat→Nat→Value) (m i j:Nat):Value:=if i<m then C3.val ⟨k+3*(i:Int),k+3*(i:Int)+1,k+3*(i:Int)+2⟩ j else f i j
theorem mkI_0 (k:Int) (f:Nat→Nat→Value):mkI k f 0=f:=by funext i j;simp [mkI]
theorem mkC_0 (k:Int) (f:Nat→Nat→Value):mkC k f 0=f:=by funext i j;simp [mkC]
theorem mkI_step {k x:Int} {f:Nat→Nat→Value} {m:Nat} (h:x=k+(m:Int)) (i j:Nat):(if i=m then Value.int .i64 x else mkI k f m i j)=mkI k f (m+1) i j:=by
  subst h
  unfold mkI
  by_cases e:i=m
  · subst e;rw [if_pos rfl,if_pos (by omega)]
  · rw [if_neg e]
    by_cases e2:i<m
    · rw [if_pos e2,if_pos (by omega)]
    · rw [if_neg e2,if_neg (by omega)]
theorem mkC_step {k:Int} {f:Nat→Nat→Value} {m:Nat} {c:C3} (h:c=⟨k+3*(m:Int),k+3*(m:Int)+1,k+3*(m:Int)+2⟩) (i j:Nat):(if i=m then c.val j else mkC k f m i j)=mkC k f (m+1) i j:=by
  subst h
  unfold mkC
  by_cases e:i=m
  · subst e;rw [if_pos rfl,if_pos (by omega)]
  · rw [if_neg e]
    by_cases e2:i<m
    · rw [if_pos e2,if_pos (by omega)]
    · rw [if_neg e2,if_neg (by omega)]
theorem mkI_end (k:Int) (f:Nat→Nat→Value) (n:Nat):∀ i j,i<n→j<1→mkI k f n i j=intF (marksI k n) i j:=fun i j hi _=>by simp only [mkI,intF,marksI_get hi,if_pos hi]
theorem mkC_end (k:Int) (f:Nat→Nat→Value) (n:Nat):∀ i j,i<n→j<3→mkC k f n i j=cellF (marksC k n) i j:=fun i j hi _=>by simp only [mkC,cellF,marksC_get hi,if_pos hi]
theorem grS {w W:World} {g:Nat} {p:Addr} {u:Value} (h:w.grownBy W (some g)) (hp:p.block=g):w.grownBy (W.setCell p u) (some g) :=
  ⟨h.os,h.tape,h.output,by simpa [World.setCell] using h.size,fun k hk hn=>(Below.heap_setCell W p u k (by
    rintro rfl
    exact hn (by rw [hp]))).trans (h.block k hk hn)⟩
theorem grR (w:World) (row:Option Nat):w.grownBy w row:=⟨rfl,rfl,rfl,Nat.le_refl _,fun _ _ _=>rfl⟩
set_option maxHeartbeats 400000 in
theorem markInt64S_any (n:Nat) (f:Nat→Nat→Value) (lo:Nat) (v:Value) (k:Int) (w:World) (h:New w lo v n 1 f) (h0:0≤k) (h1:k≤1099511627776) (hm:n≤1048576) :
    Calls Tryz.prog 11 #[v,.int .i64 k] w fun r w'=>r=.returned (.int .i64 (k+n))∧NewI w' lo v (marksI k n)∧w.grownBy w' v.ownBlock:=by
  rcases h with ⟨rfl,rfl⟩|⟨g,cap,rfl,hl,hL⟩
  · go_enter Tryz.func11,Tryz.ntmps11
    go_wp2
    go_loopw [1,5] (fun q i wr=>i=.int .i64 0∧q=.int .i64 k∧wr=w) (fun _ i _=>0 - (intOf i).toNat)
    case atStart=>exact ⟨rfl,rfl,rfl⟩
    case round =>
      obtain ⟨rfl,rfl,rfl⟩:=hrel
      go_wp2
      go_ret
      exact ⟨by simp,.inl ⟨rfl,rfl⟩,grR _ _⟩
  · have hW:=grR w (some g)
    go_enter Tryz.func11,Tryz.ntmps11
    go_wp2
    go_loopw [1,5] (fun q i wr=>∃ m:Nat,m≤n∧i=.int .i64 m∧q=.int .i64 (k+m)∧Lie wr g n 1 (mkI k f m)∧w.grownBy wr (some g)) (fun _ i _=>n - (intOf i).toNat)
    case atStart=>exact ⟨0,Nat.zero_le _,rfl,by simp,by rw [mkI_0];exact hL,hW⟩
    case round =>
      clear hL hW
      obtain ⟨m,hk,rfl,rfl,hL,hW⟩:=hrel
      by_cases hlt:m<n
      · have e0:=hL.cell hlt (show 0<1 by omega)
        simp only [Nat.add_zero,Nat.mul_one] at e0
        have f1:=hL.frozen
        go_wp2
        go_roundw
        case rel=>exact ⟨m+1,by omega,by go_num,by go_num,(hL.set1 hlt (.int .i64 (k+m))).congr (fun i j _ _=>mkI_step rfl i j),grS hW rfl⟩
        case measure=>simp [intOf];omega
      · have:m=n:=by omega
        subst this
        go_wp2
        go_ret
        exact ⟨rfl,.inr ⟨g,cap,by rw [marksI_len],hl,by rw [marksI_len];exact hL.congr (mkI_end k f m)⟩,hW⟩
set_option maxHeartbeats 1000000 in
theorem markCellS_any (n:Nat) (f:Nat→Nat→Value) (lo:Nat) (v:Value) (k:Int) (w:World) (h:New w lo v n 3 f) (h0:0≤k) (h1:k≤1099511627776) (hm:n≤1048576) :
    Calls Tryz.prog 52 #[v,.int .i64 k] w fun r w'=>r=.returned (.int .i64 (k+3*n))∧NewC w' lo v (marksC k n)∧w.grownBy w' v.ownBlock:=by
  rcases h with ⟨rfl,rfl⟩|⟨g,cap,rfl,hl,hL⟩
  · go_enter Tryz.func52,Tryz.ntmps52
    go_wp2
    go_loopw [1,5] (fun q i wr=>i=.int .i64 0∧q=.int .i64 k∧wr=w) (fun _ i _=>0 - (intOf i).toNat)
    case atStart=>exact ⟨rfl,rfl,rfl⟩
    case round =>
      obtain ⟨rfl,rfl,rfl⟩:=hrel
      go_wp2
      go_ret
      exact ⟨by simp,.inl ⟨rfl,rfl⟩,grR _ _⟩
  · have hW:=grR w (some g)
    go_enter Tryz.func52,Tryz.ntmps52
    go_wp2
    go_loopw [1,5] (fun q i wr=>∃ m:Nat,m≤n∧i=.int .i64 m∧q=.int .i64 (k+3*m)∧Lie wr g n 3 (mkC k f m)∧w.grownBy wr (some g)) (fun _ i _=>n - (intOf i).toNat)
    case atStart=>exact ⟨0,Nat.zero_le _,rfl,by simp,by rw [mkC_0];exact hL,hW⟩
    case round =>
      clear hL hW
      obtain ⟨m,hk,rfl,rfl,hL,hW⟩:=hrel
      by_cases hlt:m<n
      · have e0:=hL.cell hlt (show 0<3 by omega)
        have e1:=hL.cell hlt (show 1<3 by omega)
        have e2:=hL.cell hlt (show 2<3 by omega)
        simp only [Nat.add_zero] at e0
        have f1:=hL.frozen
        go_wp2
        go_roundw
        case rel=>exact ⟨m+1,by omega,by go_num,by go_num,(hL.set3 hlt (C3.val ⟨k+3*(m:Int),k+3*(m:Int)+1,k+3*(m:Int)+1+1⟩)).congr (fun i j _ _=>mkC_step (by congr 1;omega) i j),grS (grS (grS hW rfl) rfl) rfl⟩
        case measure=>simp [intOf];omega
      · have:m=n:=by omega
        subst this
        go_wp2
        go_ret
        exact ⟨rfl,.inr ⟨g,cap,by rw [marksC_len],hl,by rw [marksC_len];exact hL.congr (mkC_end k f m)⟩,hW⟩
set_option maxHeartbeats 1000000 in
theorem heldInt64S_any (n:Nat) (lo:Nat) (v:Value) (k:Int) (w:World) (h:NewI w lo v (marksI k n)) (h0:0≤k) (h1:k≤1099511627776) (hm:n≤1048576) :
    Calls Tryz.prog 12 #[v,.int .i64 k] w fun r w'=>r=.returned (.int .i64 (k+n))∧Below w.heap.size w w':=by
  obtain ⟨a,cap,rfl,hS⟩:=h.seg
  rw [marksI_len] at hS ⊢
  have HS:=Lib.hid hS
  clear hS h
  go_enter Tryz.func12,Tryz.ntmps12
  go_wp2
  go_loopw [1,5] (fun q i wr=>∃ m:Nat,m≤n∧i=.int .i64 m∧q=.int .i64 (k+m)∧Below w.heap.size w wr) (fun _ i _=>n - (intOf i).toNat)
  case atStart=>exact ⟨0,Nat.zero_le _,rfl,by simp,Below.refl _ _⟩
  case round =>
    obtain ⟨m,hk,rfl,rfl,hB⟩:=hrel
    by_cases hlt:m<n
    · obtain h0'|⟨b,o,rfl,hb,hc⟩:=HS.out
      · omega
      have c0:=(hB.cell (p:=⟨b,o+m*1+0,none⟩) hb).trans (hc m 0 hlt (by omega))
      simp only [intF,Nat.add_zero,Nat.mul_one,marksI_get hlt] at c0
      clear hc
      have hk0:(0:Int)≤(m:Int):=by omega
      have hk1:(m:Int)<(n:Int):=by omega
      go_wp2
      go_roundw
      case rel=>exact ⟨m+1,by omega,by go_num,by go_num,by exact zB⟩
      case measure=>simp [intOf];omega
    · have:m=n:=by omega
      subst this
      go_wp2
      go_ret
      exact ⟨rfl,hB⟩
end Go.Proofs.YtmnpgkcdfielbaaGreat
set_option linter.unusedSimpArgs false
set_option linter.unusedVariables false
namespace Go.Proofs.YtmnpgkcdfielbaaGreat
open Go.RowKit
def numF (K:Nat) (k:Int) (i j:Nat):Value:=.int .i64 (k+(K:Int)*(i:Int)+(j:Int))
def partN (f z:Nat→Nat→Value) (m i j:Nat):Value:=if i<m then f i j else z i j
theorem partN_0 (f z:Nat→Nat→Value):partN f z 0=z:=by funext i j;simp [partN]
theorem partN_end (f z:Nat→Nat→Value) (n K:Nat):∀ i j,i<n→j<K→partN f z n i j=f i j:=fun i j hi _=>by simp only [partN,if_pos hi]
theorem partN_step {f z:Nat→Nat→Value} {v:Nat→Value} {m j:Nat} (h:v j=f m j) (i:Nat):(if i=m then v j else partN f z m i j)=partN f z (m+1) i j:=by
  unfold partN
  by_cases e:i=m
  · subst e;rw [if_pos rfl,if_pos (by omega),h]
  · rw [if_neg e]
    by_cases e2:i<m
    · rw [if_pos e2,if_pos (by omega)]
    · rw [if_neg e2,if_neg (by omega)]
set_option maxHeartbeats 4000000 in
theorem Lie.set14 {w:World} {b n:Nat} {f:Nat→Nat→Value} (h:Lie w b n 14 f) {i:Nat} (hi:i<n) (v:Nat→Value) :
    Lie ((((((((((((((w.setCell ⟨b,i*14,none⟩ (v 0)).setCell ⟨b,i*14+1,none⟩ (v 1)).setCell ⟨b,i*14+2,none⟩ (v 2)).setCell ⟨b,i*14+3,none⟩ (v 3)).setCell ⟨b,i*14+4,none⟩ (v 4)).setCell ⟨b,i*14+5,none⟩ (v 5)).setCell ⟨b,i*14+6,none⟩ (v 6)).setCell ⟨b,i*14+7,none⟩ (v 7)).setCell ⟨b,i*14+8,none⟩ (v 8)).setCell ⟨b,i*14+9,none⟩ (v 9)).setCell ⟨b,i*14+10,none⟩ (v 10)).setCell ⟨b,i*14+11,none⟩ (v 11)).setCell ⟨b,i*14+12,none⟩ (v 12)).setCell ⟨b,i*14+13,none⟩ (v 13)) b n 14 (fun i' j'=>if i'=i then v j' else f i' j'):=by
  refine ((((((((((((((h.set hi (j:=0) (by omega) (v 0)).set hi (j:=1) (by omega) (v 1)).set hi (j:=2) (by omega) (v 2)).set hi (j:=3) (by omega) (v 3)).set hi (j:=4) (by omega) (v 4)).set hi (j:=5) (by omega) (v 5)).set hi (j:=6) (by omega) (v 6)).set hi (j:=7) (by omega) (v 7)).set hi (j:=8) (by omega) (v 8)).set hi (j:=9) (by omega) (v 9)).set hi (j:=10) (by omega) (v 10)).set hi (j:=11) (by omega) (v 11)).set hi (j:=12) (by omega) (v 12)).set hi (j:=13) (by omega) (v 13)).congr fun i' j' _ hj=>?_
  have:j'=0∨j'=1∨j'=2∨j'=3∨j'=4∨j'=5∨j'=6∨j'=7∨j'=8∨j'=9∨j'=10∨j'=11∨j'=12∨j'=13:=by omega
  rcases this with rfl|rfl|rfl|rfl|rfl|rfl|rfl|rfl|rfl|rfl|rfl|rfl|rfl|rfl <;> by_cases e:i'=i <;> simp [e]
set_option maxHeartbeats 4000000 in
theorem Lie.set7 {w:World} {b n:Nat} {f:Nat→Nat→Value} (h:Lie w b n 7 f) {i:Nat} (hi:i<n) (v:Nat→Value) :
    Lie (((((((w.setCell ⟨b,i*7,none⟩ (v 0)).setCell ⟨b,i*7+1,none⟩ (v 1)).setCell ⟨b,i*7+2,none⟩ (v 2)).setCell ⟨b,i*7+3,none⟩ (v 3)).setCell ⟨b,i*7+4,none⟩ (v 4)).setCell ⟨b,i*7+5,none⟩ (v 5)).setCell ⟨b,i*7+6,none⟩ (v 6)) b n 7 (fun i' j'=>if i'=i then v j' else f i' j'):=by
  refine (((((((h.set hi (j:=0) (by omega) (v 0)).set hi (j:=1) (by omega) (v 1)).set hi (j:=2) (by omega) (v 2)).set hi (j:=3) (by omega) (v 3)).set hi (j:=4) (by omega) (v 4)).set hi (j:=5) (by omega) (v 5)).set hi (j:=6) (by omega) (v 6)).congr fun i' j' _ hj=>?_
  have:j'=0∨j'=1∨j'=2∨j'=3∨j'=4∨j'=5∨j'=6:=by omega
  rcases this with rfl|rfl|rfl|rfl|rfl|rfl|rfl <;> by_cases e:i'=i <;> simp [e]
set_option maxHeartbeats 4000000 in
theorem Row.set14 {w:World} {b n:Nat} {t:TypeId} {f:Nat→Nat→Value} (h:Row w b t n 14 f) {i:Nat} (hi:i<n) (v:Nat→Value) :
    Row ((((((((((((((w.setCell ⟨b,i*14,none⟩ (v 0)).setCell ⟨b,i*14+1,none⟩ (v 1)).setCell ⟨b,i*14+2,none⟩ (v 2)).setCell ⟨b,i*14+3,none⟩ (v 3)).setCell ⟨b,i*14+4,none⟩ (v 4)).setCell ⟨b,i*14+5,none⟩ (v 5)).setCell ⟨b,i*14+6,none⟩ (v 6)).setCell ⟨b,i*14+7,none⟩ (v 7)).setCell ⟨b,i*14+8,none⟩ (v 8)).setCell ⟨b,i*14+9,none⟩ (v 9)).setCell ⟨b,i*14+10,none⟩ (v 10)).setCell ⟨b,i*14+11,none⟩ (v 11)).setCell ⟨b,i*14+12,none⟩ (v 12)).setCell ⟨b,i*14+13,none⟩ (v 13)) b t n 14 (fun i' j'=>if i'=i then v j' else f i' j'):=by
  refine ((((((((((((((h.set hi (j:=0) (by omega) (v 0)).set hi (j:=1) (by omega) (v 1)).set hi (j:=2) (by omega) (v 2)).set hi (j:=3) (by omega) (v 3)).set hi (j:=4) (by omega) (v 4)).set hi (j:=5) (by omega) (v 5)).set hi (j:=6) (by omega) (v 6)).set hi (j:=7) (by omega) (v 7)).set hi (j:=8) (by omega) (v 8)).set hi (j:=9) (by omega) (v 9)).set hi (j:=10) (by omega) (v 10)).set hi (j:=11) (by omega) (v 11)).set hi (j:=12) (by omega) (v 12)).set hi (j:=13) (by omega) (v 13)).congr fun i' j' _ hj=>?_
  have:j'=0∨j'=1∨j'=2∨j'=3∨j'=4∨j'=5∨j'=6∨j'=7∨j'=8∨j'=9∨j'=10∨j'=11∨j'=12∨j'=13:=by omega
  rcases this with rfl|rfl|rfl|rfl|rfl|rfl|rfl|rfl|rfl|rfl|rfl|rfl|rfl|rfl <;> by_cases e:i'=i <;> simp [e]
set_option maxHeartbeats 4000000 in
theorem Row.set7 {w:World} {b n:Nat} {t:TypeId} {f:Nat→Nat→Value} (h:Row w b t n 7 f) {i:Nat} (hi:i<n) (v:Nat→Value) :
    Row (((((((w.setCell ⟨b,i*7,none⟩ (v 0)).setCell ⟨b,i*7+1,none⟩ (v 1)).setCell ⟨b,i*7+2,none⟩ (v 2)).setCell ⟨b,i*7+3,none⟩ (v 3)).setCell ⟨b,i*7+4,none⟩ (v 4)).setCell ⟨b,i*7+5,none⟩ (v 5)).setCell ⟨b,i*7+6,none⟩ (v 6)) b t n 7 (fun i' j'=>if i'=i then v j' else f i' j'):=by
  refine (((((((h.set hi (j:=0) (by omega) (v 0)).set hi (j:=1) (by omega) (v 1)).set hi (j:=2) (by omega) (v 2)).set hi (j:=3) (by omega) (v 3)).set hi (j:=4) (by omega) (v 4)).set hi (j:=5) (by omega) (v 5)).set hi (j:=6) (by omega) (v 6)).congr fun i' j' _ hj=>?_
  have:j'=0∨j'=1∨j'=2∨j'=3∨j'=4∨j'=5∨j'=6:=by omega
  rcases this with rfl|rfl|rfl|rfl|rfl|rfl|rfl <;> by_cases e:i'=i <;> simp [e]
end Go.Proofs.YtmnpgkcdfielbaaGreat
set_option linter.unusedSimpArgs false
set_option linter.unusedVariables false
namespace Go.Proofs.YtmnpgkcdfielbaaGreat
open Go.RowKit
theorem aggHandL (w:World):(isAgg 81).run Tryz.prog w=.ok true w:=by simp [isAgg,go_sem]
theorem szHandL (w:World):(sizeOf 81).run Tryz.prog w=.ok 14 w:=by simp [go_sem]
theorem loadHandVL {w:World} {b:Nat} (h:okO 14 (hp w b)=true):(loadVar 81 ⟨b,0,none⟩).run Tryz.prog w=.ok (.agg (cellsO (hp w b))) w:=load_box aggHandL szHandL h
theorem loadHandL {w:World} {b:Nat} (h:okO 14 (hp w b)=true):(Instr.loadAt 81 (.pointer (some ⟨b,0,none⟩))).run Tryz.prog w=.ok (.agg (cellsO (hp w b))) w:=by
  simp only [Instr.loadAt,Instr.sureAddr,Sem.run_bind,Sem.run_pure,Result.andThen_ok,loadHandVL h]
/-- Loading whole, as one word: a hand of the laws. -/
def LHandL (x:Value):Sem Value:=Instr.loadAt 81 x
theorem toLHandL (x:Value):Instr.loadAt 81 x=LHandL x:=by unfold LHandL;simp
theorem runLHandL {w:World} {b:Nat} (h:okO 14 (hp w b)=true):(LHandL (.pointer (some ⟨b,0,none⟩))).run Tryz.prog w=.ok (.agg (cellsO (hp w b))) w:=loadHandL h
theorem aggChanL (w:World):(isAgg 25).run Tryz.prog w=.ok true w:=by simp [isAgg,go_sem]
theorem szChanL (w:World):(sizeOf 25).run Tryz.prog w=.ok 6 w:=by simp [go_sem]
theorem loadChanVL {w:World} {b:Nat} (h:okO 6 (hp w b)=true):(loadVar 25 ⟨b,0,none⟩).run Tryz.prog w=.ok (.agg (cellsO (hp w b))) w:=load_box aggChanL szChanL h
theorem loadChanL {w:World} {b:Nat} (h:okO 6 (hp w b)=true):(Instr.loadAt 25 (.pointer (some ⟨b,0,none⟩))).run Tryz.prog w=.ok (.agg (cellsO (hp w b))) w:=by
  simp only [Instr.loadAt,Instr.sureAddr,Sem.run_bind,Sem.run_pure,Result.andThen_ok,loadChanVL h]
/-- Loading whole, as one word: a channel of the laws. -/
def LChanL (x:Value):Sem Value:=Instr.loadAt 25 x
theorem runLChanL {w:World} {b:Nat} (h:okO 6 (hp w b)=true):(LChanL (.pointer (some ⟨b,0,none⟩))).run Tryz.prog w=.ok (.agg (cellsO (hp w b))) w:=loadChanL h
attribute [go_sem] runLHandL runLChanL
attribute [local go_sem ↓] zeroHand toLHand toVHand storeHand storeHandC
set_option maxHeartbeats 400000 in
theorem toCall_whole (k e:Int) (w:World):Calls Tryz.prog 60 #[.agg #[.int .i64 k,.int .i64 e]] w fun r w'=>r=.returned (.agg #[.int .i64 k,.int .i64 e])∧Below w.heap.size w w':=by
  go_enter Tryz.func60,Tryz.ntmps60
  go_wp2
  exact bodyPost_ret (v:=.agg #[.int .i64 k,.int .i64 e]) (by simp [results,Tryz.results60,go_sem, *]) rfl ⟨rfl,by exact zB⟩
set_option maxRecDepth 100000 in
set_option maxHeartbeats 1000000 in
theorem toHand_any (h:Ha) (w:World):Calls Tryz.prog 41 #[.agg (hvals h)] w fun r w'=>r=.returned (.agg (hvals h))∧Below w.heap.size w w':=by
  go_enter Tryz.func41,Tryz.ntmps41
  go_wp2_with fail;refine bHit w (by exact zB) fun bb=>?_;refine (toCall_whole h.code h.elem _).mono ?_;rintro _ w1 ⟨rfl,hbw1⟩;have hCw1:Below w.heap.size w w1:=bT bb hbw1;have hsw1:=hbw1.size;(try simp at hsw1);have zz:=And.intro (hQ hbw1 (b:=w.heap.size+1+1)) <| And.intro (hQ hbw1 (b:=w.heap.size+1)) <| hQ hbw1 (b:=w.heap.size);(try simp [go_sem] at zz);(try clear z_wpp x_wpp f_wpp l_wpp);(try clear z_wp x_wp f_wp l_wp);(try clear z_w x_w f_w l_w);obtain ⟨z_wpp,z_wp,z_w⟩:=zz;obtain ⟨x_wpp,f_wpp,l_wpp⟩:=bO z_wpp;obtain ⟨x_wp,f_wp,l_wp⟩:=bO z_wp;obtain ⟨x_w,f_w,l_w⟩:=bO z_w;clear hbw1 bb
  go_wp2
  exact bodyPost_ret (res_c Tryz.results41 rfl (ldHand h (by simp [go_sem, *] <;> rfl))) rfl ⟨rfl,by exact zB⟩
set_option maxHeartbeats 400000 in
theorem eqCall_self (k e:Int) (w:World):Calls Tryz.prog 69 #[.agg #[.int .i64 k,.int .i64 e],.agg #[.int .i64 k,.int .i64 e]] w fun r w'=>r=.returned (.bool true)∧Below w.heap.size w w':=by
  go_enter Tryz.func69,Tryz.ntmps69
  go_wp2
  all_goals go_ret
  exact ⟨rfl,by exact zB⟩
set_option maxRecDepth 100000 in
set_option maxHeartbeats 1000000 in
theorem eqHand_any (h:Ha) (w:World):Calls Tryz.prog 50 #[.agg (hvals h),.agg (hvals h)] w fun r w'=>r=.returned (.bool true)∧Below w.heap.size w w':=by
  go_enter Tryz.func50,Tryz.ntmps50
  go_wp2
  go_ret
  exact ⟨rfl,by exact zB⟩
end Go.Proofs.YtmnpgkcdfielbaaGreat
set_option linter.unusedSimpArgs false
set_option linter.unusedVariables false
namespace Go.Proofs.YtmnpgkcdfielbaaGreat
open Go.RowKit
set_option linter.unusedSimpArgs false
/-- Lists of two kinds lie apart. -/
theorem own_off_ty {w:World} {lo lo':Nat} {e e':TypeId} {k k' n n':Nat} {v v':Value} {xs xs':List Value} (h:w.ownsRow lo e k v n xs) (h':w.ownsRow lo' e' k' v' n' xs') (hne:e≠e'):v.ownBlock=none∨v.ownBlock≠v'.ownBlock:=by
  rcases h.2 with ⟨rfl,_⟩|⟨g,cap,cur,rfl,_,hg,_⟩
  · exact .inl rfl
  · refine .inr fun e2=>?_
    rcases h'.2 with ⟨rfl,_⟩|⟨g',cap',cur',rfl,_,hg',_⟩
    · cases e2
    · simp [Value.ownBlock] at e2
      subst e2
      rw [hg] at hg'
      simp at hg'
      exact hne hg'.2
theorem infoHandE:(Tryz.prog.info? 70).map (fun i=>(i.zero,i.size,i.bytes))=some (some (.agg (hvals Ha.zero)),14,112):=by kernel_rfl
theorem infoDealE:(Tryz.prog.info? 72).map (fun i=>(i.zero,i.size,i.bytes))=some (some (.agg (dvals De.zero)),7,56):=by kernel_rfl
end Go.Proofs.YtmnpgkcdfielbaaGreat
set_option linter.unusedSimpArgs false
set_option linter.unusedVariables false
namespace Go.Proofs.YtmnpgkcdfielbaaGreat
open Go.RowKit
set_option linter.unusedSimpArgs false
attribute [local go_sem ↓] zeroHand toLHand toVHand storeHand storeHandC
end Go.Proofs.YtmnpgkcdfielbaaGreat
