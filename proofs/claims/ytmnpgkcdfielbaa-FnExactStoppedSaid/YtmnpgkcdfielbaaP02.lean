/-
  The contracts of the laws' helpers on lists of numbers; lists of at most 1048576 elements.
  The contracts of the laws' helpers on cells; lists of at most 1048576 elements.
  What the document's functions of chapters 1 to 12 compute, as plain functions on numbers and lists; no condition.
-/
import Derived.Test.YtmnpgkcdfielbaaP01
set_option linter.unusedSimpArgs false
set_option linter.unusedVariables false
namespace Go.Proofs.Ytmnpgkcdfielbaa
open Go.RowKit
def partI (l:List Int) (k i _j:Nat):Value:=if i<k then .int .i64 (l.getD i 0) else .int .i64 0
theorem Row.set1 {w:World} {b:Nat} {t:TypeId} {n:Nat} {f:Nat→Nat→Value} (h:Row w b t n 1 f) {i:Nat} (hi:i<n) (v:Value) :
    Row (w.setCell ⟨b,i,none⟩ v) b t n 1 (fun i' j'=>if i'=i then v else f i' j'):=by
  have h1:=h.set hi (j:=0) (by omega) v
  simp only [Nat.mul_one,Nat.add_zero] at h1
  refine h1.congr fun i' j' _ hj=>?_
  have:j'=0:=by omega
  subst this
  by_cases e:i'=i <;> simp [e]
theorem partI_step {l:List Int} {k:Nat} {x:Int} (h:l.getD k 0=x) (i j:Nat):(if i=k then Value.int .i64 x else partI l k i j)=partI l (k+1) i j:=by
  unfold partI
  by_cases e:i=k
  · subst e;rw [if_pos rfl,if_pos (by omega),h]
  · rw [if_neg e]
    by_cases e2:i<k
    · rw [if_pos e2,if_pos (by omega)]
    · rw [if_neg e2,if_neg (by omega)]
theorem partI_end (l:List Int):∀ i j,i<l.length→j<1→partI l l.length i j=intF l i j:=fun i j hi _=>by simp [partI,intF,hi]
set_option maxHeartbeats 400000 in
theorem toInt64S_any (l:List Int) (a:Option Addr) (cap:Nat) (w:World) (h:Seg w w.heap.size a l.length 1 (intF l)) (hm:l.length≤1048576) :
    Calls Try.prog 45 #[.slice a l.length cap] w fun r w'=>r=.returned (.slice (some ⟨w.heap.size,0,none⟩) l.length l.length)∧Row w' w.heap.size 2 l.length 1 (intF l)∧Below w.heap.size w w':=by
  have HS:=Lib.hid h
  clear h
  have hmk:=mkInts l.length hm
  have hR0:=(Row.made w #[.int .i64 0] l.length 2).congr (g:=partI l 0) (fun i j _ hj=>by
    have:j=0:=by simp at hj;omega
    subst this;simp [partI])
  go_enter Try.func45,Try.ntmps45
  go_wp2
  go_loopw [4] (fun i wr=>∃ k:Nat,k≤l.length∧i=.int .i64 k∧Row wr w.heap.size 2 l.length 1 (partI l k)∧Below w.heap.size w wr) (fun i _=>l.length - (intOf i).toNat)
  case atStart=>exact ⟨0,Nat.zero_le _,rfl,by simpa using hR0,(Below.refl _ _).alloc (Nat.le_refl _) _⟩
  case round =>
    obtain ⟨k,hk,rfl,hR,hB⟩:=hrel
    have hs:=hB.size
    have hl:=hR.lt
    by_cases hlt:k<l.length
    · obtain h0|⟨b,o,rfl,hb,hc⟩:=HS.out
      · omega
      have c0:=(hB.cell (p:=⟨b,o+k*1+0,none⟩) hb).trans (hc k 0 hlt (by omega))
      simp only [intF,Nat.add_zero,Nat.mul_one] at c0
      clear hc
      generalize hcg:l.getD k 0=x at c0
      have HC:=Lib.hid hcg
      clear hcg
      have e0:=hR.cell hlt (show 0<1 by omega)
      simp only [Nat.add_zero,Nat.mul_one] at e0
      have f1:=hR.frozen
      go_wp2
      go_roundw
      case rel=>exact ⟨k+1,by omega,by go_num,(hR.set1 hlt (.int .i64 x)).congr (fun i j _ _=>partI_step HC.out i j),by exact zB⟩
      case measure=>simp [intOf];omega
    · have:k=l.length:=by omega
      subst this
      go_wp2
      go_ret
      exact ⟨rfl,hR.congr (partI_end l),hB⟩
theorem bDN' {w W:World} (h:Below w.heap.size w W) (n:Nat):Below w.heap.size w (W.drewN n):=⟨h.os,h.tape,h.output,h.size,h.block⟩
set_option maxRecDepth 100000 in
set_option maxHeartbeats 400000 in
theorem eqInt64S_any (l:List Int) (a a':Option Addr) (cap cap':Nat) (w:World) (h:Seg w w.heap.size a l.length 1 (intF l)) (h':Seg w w.heap.size a' l.length 1 (intF l)) (hm:l.length≤1048576) :
    Calls Try.prog 55 #[.slice a l.length cap,.slice a' l.length cap'] w fun r w'=>r=.returned (.bool true)∧Below w.heap.size w w':=by
  have HS:=Lib.hid h
  have HS':=Lib.hid h'
  clear h h'
  go_enter Try.func55,Try.ntmps55
  go_wp2
  go_loopw [5] (fun i wr=>∃ k:Nat,k≤l.length∧i=.int .i64 k∧Below w.heap.size w wr) (fun i _=>l.length - (intOf i).toNat)
  case atStart=>exact ⟨0,Nat.zero_le _,rfl,Below.refl _ _⟩
  case round =>
    obtain ⟨k,hk,rfl,hB⟩:=hrel
    by_cases hlt:k<l.length
    · obtain h0|⟨b,o,rfl,hb,hc⟩:=HS.out
      · omega
      obtain h0|⟨b',o',rfl,hb',hc'⟩:=HS'.out
      · omega
      have c0:=(hB.cell (p:=⟨b,o+k*1+0,none⟩) hb).trans (hc k 0 hlt (by omega))
      have d0:=(hB.cell (p:=⟨b',o'+k*1+0,none⟩) hb').trans (hc' k 0 hlt (by omega))
      simp only [intF,Nat.add_zero,Nat.mul_one] at c0 d0
      clear hc hc'
      generalize l.getD k 0=x at c0 d0
      have hk0:(0:Int)≤(k:Int):=by omega
      have hk1:(k:Int)<(l.length:Int):=by omega
      go_wp2_with fail
      go_quiet (fail)
      go_wp2
      go_roundw
      case rel=>exact ⟨k+1,by omega,by go_num,bDN' hB _⟩
      case measure=>simp [intOf];omega
    · have:k=l.length:=by omega
      subst this
      go_wp2
      go_ret
      exact ⟨rfl,hB⟩
set_option maxHeartbeats 400000 in
theorem szInt64S_any (n:Nat) (a:Option Addr) (cap:Nat) (left:Int) (w:World) (h0:0≤left) (h1:left≤1048576) (hm:n≤maxLen) :
    Calls Try.prog 35 #[.slice a n cap,.int .i64 left] w fun r w'=>r=.returned (.int .i64 (if left<n then -1 else left - n))∧w=w':=by
  unfold maxLen at hm
  by_cases h:left<n
  · have hn:left - n<0:=by omega
    rw [if_pos h]
    clear h
    go_enter Try.func35,Try.ntmps35
    go_wp2
    go_ret
    exact ⟨rfl,rfl⟩
  · have hn:¬ left - n<0:=by omega
    rw [if_neg h]
    go_enter Try.func35,Try.ntmps35
    go_wp2
    go_ret
    exact ⟨rfl,rfl⟩
end Go.Proofs.Ytmnpgkcdfielbaa
set_option linter.unusedSimpArgs false
set_option linter.unusedVariables false
namespace Go.Proofs.Ytmnpgkcdfielbaa
open Go.RowKit
set_option maxHeartbeats 400000 in
theorem toCell_any (s e t:Int) (w:World):Calls Try.prog 68 #[.agg #[.int .i64 s,.int .i64 e,.int .i64 t]] w fun r w'=>r=.returned (.agg #[.int .i64 s,.int .i64 e,.int .i64 t])∧Below w.heap.size w w':=by
  go_enter Try.func68,Try.ntmps68
  go_wp2
  exact bodyPost_ret (v:=.agg #[.int .i64 s,.int .i64 e,.int .i64 t]) (by simp [results,Try.results68,go_sem]) rfl ⟨rfl,by exact zB⟩
set_option maxHeartbeats 400000 in
theorem eqCell_any (s e t s' e' t':Int) (w:World):Calls Try.prog 79 #[.agg #[.int .i64 s,.int .i64 e,.int .i64 t],.agg #[.int .i64 s',.int .i64 e',.int .i64 t']] w fun r w'=>r=.returned (.bool (eqC s e t s' e' t'))∧Below w.heap.size w w':=by
  go_enter Try.func79,Try.ntmps79
  go_wp2
  all_goals go_ret
  all_goals refine ⟨ret_bool ?_,by exact zB⟩
  all_goals unfold eqC
  all_goals repeat (rw [eqB_2 ‹_›])
  all_goals first|exact eqB_1 ‹_›|rfl
set_option maxHeartbeats 400000 in
theorem toCellS_any (cs:List C3) (a:Option Addr) (cap:Nat) (w:World) (h:Seg w w.heap.size a cs.length 3 (cellF cs)) (hm:cs.length≤1048576) :
    Calls Try.prog 44 #[.slice a cs.length cap] w fun r w'=>r=.returned (.slice (some ⟨w.heap.size,0,none⟩) cs.length cs.length)∧Row w' w.heap.size 98 cs.length 3 (cellF cs)∧Below w.heap.size w w':=by
  have HS:=Lib.hid h
  clear h
  have hmk:=mkCells cs.length hm
  have hR0:=(Row.made w #[.int .i64 0,.int .i64 0,.int .i64 0] cs.length 98).congr (g:=partF cs 0) (fun i j _ hj=>by
    have:j=0∨j=1∨j=2:=by simp at hj;omega
    rcases this with rfl|rfl|rfl <;> simp [partF])
  go_enter Try.func44,Try.ntmps44
  go_wp2
  go_loopw [4] (fun i wr=>∃ k:Nat,k≤cs.length∧i=.int .i64 k∧Row wr w.heap.size 98 cs.length 3 (partF cs k)∧Below w.heap.size w wr) (fun i _=>cs.length - (intOf i).toNat)
  case atStart=>exact ⟨0,Nat.zero_le _,rfl,hR0,(Below.refl _ _).alloc (Nat.le_refl _) _⟩
  case round =>
    obtain ⟨k,hk,rfl,hR,hB⟩:=hrel
    have hs:=hB.size
    have hl:=hR.lt
    by_cases hlt:k<cs.length
    · obtain h0|⟨b,o,rfl,hb,hc⟩:=HS.out
      · omega
      have c0:=(hB.cell (p:=⟨b,o+k*3+0,none⟩) hb).trans (hc k 0 hlt (by omega))
      have c1:=(hB.cell (p:=⟨b,o+k*3+1,none⟩) hb).trans (hc k 1 hlt (by omega))
      have c2:=(hB.cell (p:=⟨b,o+k*3+2,none⟩) hb).trans (hc k 2 hlt (by omega))
      simp only [cellF,C3.val,Nat.add_zero] at c0 c1 c2
      clear hc
      generalize hcg:cs.getD k ⟨0,0,0⟩=c at c0 c1 c2
      have HC:=Lib.hid hcg
      clear hcg
      go_wp2_with ((go_at_call 68;refine (toCell_any _ _ _ _).mono ?_;rintro _ w1 ⟨rfl,hbw1⟩;have hBw1:Below w.heap.size w w1:=bT (by exact zB) hbw1;have hsw1:=hbw1.size;(try (simp at hsw1)));have hR1:=hR.below hbw1 hl;have e0:=hR1.cell hlt (show 0<3 by omega);have e1:=hR1.cell hlt (show 1<3 by omega);have e2:=hR1.cell hlt (show 2<3 by omega);simp only [Nat.add_zero] at e0;have f1:=hR1.frozen)
      go_roundw
      case rel=>exact ⟨k+1,by omega,by go_num,(hR1.set3 hlt c.val).congr (fun i j _ _=>part_step HC.out i j),by exact zB⟩
      case measure=>simp [intOf];omega
    · have:k=cs.length:=by omega
      subst this
      go_wp2
      go_ret
      exact ⟨rfl,hR.congr (part_end cs),hB⟩
set_option maxRecDepth 100000 in
set_option maxHeartbeats 400000 in
theorem eqCellS_any (cs:List C3) (a a':Option Addr) (cap cap':Nat) (w:World) (h:Seg w w.heap.size a cs.length 3 (cellF cs)) (h':Seg w w.heap.size a' cs.length 3 (cellF cs)) (hm:cs.length≤1048576) :
    Calls Try.prog 54 #[.slice a cs.length cap,.slice a' cs.length cap'] w fun r w'=>r=.returned (.bool true)∧Below w.heap.size w w':=by
  have HS:=Lib.hid h
  have HS':=Lib.hid h'
  clear h h'
  go_enter Try.func54,Try.ntmps54
  go_wp2
  go_loopw [5] (fun i wr=>∃ k:Nat,k≤cs.length∧i=.int .i64 k∧Below w.heap.size w wr) (fun i _=>cs.length - (intOf i).toNat)
  case atStart=>exact ⟨0,Nat.zero_le _,rfl,Below.refl _ _⟩
  case round =>
    obtain ⟨k,hk,rfl,hB⟩:=hrel
    have hs:=hB.size
    by_cases hlt:k<cs.length
    · obtain h0|⟨b,o,rfl,hb,hc⟩:=HS.out
      · omega
      obtain h0|⟨b',o',rfl,hb',hc'⟩:=HS'.out
      · omega
      have c0:=(hB.cell (p:=⟨b,o+k*3+0,none⟩) hb).trans (hc k 0 hlt (by omega))
      have c1:=(hB.cell (p:=⟨b,o+k*3+1,none⟩) hb).trans (hc k 1 hlt (by omega))
      have c2:=(hB.cell (p:=⟨b,o+k*3+2,none⟩) hb).trans (hc k 2 hlt (by omega))
      have d0:=(hB.cell (p:=⟨b',o'+k*3+0,none⟩) hb').trans (hc' k 0 hlt (by omega))
      have d1:=(hB.cell (p:=⟨b',o'+k*3+1,none⟩) hb').trans (hc' k 1 hlt (by omega))
      have d2:=(hB.cell (p:=⟨b',o'+k*3+2,none⟩) hb').trans (hc' k 2 hlt (by omega))
      simp only [cellF,C3.val,Nat.add_zero] at c0 c1 c2 d0 d1 d2
      clear hc hc'
      generalize hcg:cs.getD k ⟨0,0,0⟩=c at c0 c1 c2 d0 d1 d2
      have HC:=Lib.hid hcg
      clear hcg
      have hk0:(0:Int)≤(k:Int):=by omega
      have hk1:(k:Int)<(cs.length:Int):=by omega
      go_wp2_with fail
      go_still_tail 8,(by kernel_rfl)
      go_wp2_with (go_at_call 79;refine (eqCell_any _ _ _ _ _ _ _).mono ?_;rintro _ w1 ⟨rfl,hbw1⟩;have hBw1:Below w.heap.size w w1:=bT (by exact zB) hbw1;have hsw1:=hbw1.size;(try (simp at hsw1)))
      · rename_i hq
        rw [eqC_refl] at hq
        simp at hq
      · go_roundw
        case rel=>exact ⟨k+1,by omega,by go_num,by exact zB⟩
        case measure=>simp [intOf];omega
    · have:k=cs.length:=by omega
      subst this
      go_wp2
      go_ret
      exact ⟨rfl,hB⟩
set_option maxHeartbeats 400000 in
theorem szCellS_any (n:Nat) (a:Option Addr) (cap:Nat) (left:Int) (w:World) (h0:0≤left) (h1:left≤1048576) (hm:n≤maxLen) :
    Calls Try.prog 34 #[.slice a n cap,.int .i64 left] w fun r w'=>r=.returned (.int .i64 (if left<n then -1 else left - n))∧w=w':=by
  unfold maxLen at hm
  by_cases h:left<n
  · have hn:left - n<0:=by omega
    rw [if_pos h]
    clear h
    go_enter Try.func34,Try.ntmps34
    go_wp2
    go_ret
    exact ⟨rfl,rfl⟩
  · have hn:¬ left - n<0:=by omega
    rw [if_neg h]
    go_enter Try.func34,Try.ntmps34
    go_wp2
    go_ret
    exact ⟨rfl,rfl⟩
end Go.Proofs.Ytmnpgkcdfielbaa
set_option linter.unusedSimpArgs false
set_option linter.unusedVariables false
namespace Go.Proofs.Ytmnpgkcdfielbaa
structure Ch where
  cap:Int
  sent:Int
  got:Int
  fin:Int
  cells:List C3
  words:List Int
structure Ca where
  code:Int
  elem:Int
structure Ha where
  pos:Int
  code:Int
  elem:Int
  cell:Int
  seen:Int
  wait:Int
  fin:Int
  come:Int
  grow:Int
  mine:Int
  nxt:Int
  beg:Int
  reply:Int
  out:Int
def C3.zero:C3:=⟨0,0,0⟩
def Ch.zero:Ch:=⟨0,0,0,0,[],[]⟩
def Ha.zero:Ha:=⟨0,0,0,0,0,0,0,0,0,0,0,0,0,0⟩
/- Chapter 2 -/
def cellFits (m:Nat) (c:C3):Bool:=okC c && decide (c.t≤m)
def chanHead (c:Ch):Bool:=inB c.cap 0 4 && (inB c.sent 0 40 && (inB c.got 0 40 && (inB c.fin 0 40 && (decide (c.cells.length=40) && decide (c.words.length≤80)))))
def chanOk (c:Ch):Bool:=chanHead c && (c.cells.all (cellFits c.words.length) && c.words.all (fun x=>inB x 0 2))
/-- The numbers from k on of the cells of that state. -/
def atFrom (st:Int):Nat→List C3→List Int
  | _,[]=>[]
  | k,c :: cs=>if c.s == st then (k:Int) :: atFrom st (k+1) cs else atFrom st (k+1) cs
def atS (c:Ch) (st:Int):List Int:=atFrom st 0 c.cells
def hasW (c:Ch) (w:Int):Bool:=inB w 1 c.words.length
def wordAt (c:Ch) (w:Int):Int:=c.words.getD (w - 1).toNat 0
def tellB (c:Ch) (w word:Int):Bool:=hasW c w && (wordAt c w == 0 && inB word 1 2)
def tellC (c:Ch) (w word:Int):Ch:=if tellB c w word then { c with words:=c.words.set (w - 1).toNat word } else c
end Go.Proofs.Ytmnpgkcdfielbaa
