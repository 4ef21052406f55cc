/-
  The contracts of the laws' helpers on channels; lists of at most 1048576 elements.
  Lists of a call's own that lie from the start of a block on; no condition.
  The laws' helpers that write numbers into a list of the call's own, and that look for them; lists of at most 1048576 elements.
  Lists in which each cell holds the next number, and lists that are filled one element after the other; no condition.
  What the document's functions of chapters 4 and 5 compute, as plain functions on numbers; no condition.
  Structs that are kept, loaded and stored as one value; no condition.
-/
import Derived.Test.YtgpdocmclkpknaaP01
import Derived.Laws.IdiomCopy
set_option linter.unusedSimpArgs false
set_option linter.unusedVariables false
namespace Go.Proofs.Ytgpdocmclkpknaa
open Go.RowKit
set_option maxRecDepth 100000 in
set_option maxHeartbeats 1000000 in
theorem toChan_any (c:Ch) (a b:Option Addr) (p q:Nat) (w:World) (h1:Seg w w.heap.size a c.cells.length 3 (cellF c.cells)) (h2:Seg w w.heap.size b c.words.length 1 (intF c.words)) (m1:c.cells.length≤1048576) (m2:c.words.length≤1048576) :
    Calls Try.prog 28 #[.agg #[.int .i64 c.cap,.int .i64 c.sent,.int .i64 c.got,.int .i64 c.fin,.slice a c.cells.length p,.slice b c.words.length q]] w fun r w' =>
      (∃ g1 g2,r=.returned (.agg #[.int .i64 c.cap,.int .i64 c.sent,.int .i64 c.got,.int .i64 c.fin,.slice (some ⟨g1,0,none⟩) c.cells.length c.cells.length,.slice (some ⟨g2,0,none⟩) c.words.length c.words.length])∧w.heap.size≤g1∧w.heap.size≤g2∧Row w' g1 89 c.cells.length 3 (cellF c.cells)∧Row w' g2 2 c.words.length 1 (intF c.words))∧Below w.heap.size w w':=by
  obtain ⟨cap,sent,got,fin,cells,words⟩:=c
  simp only at *
  have H1:=Lib.hid h1
  have H2:=Lib.hid h2
  clear h1 h2
  go_enter Try.func28,Try.ntmps28
  go_wp2_with fail
  refine (toCellS_any cells a p _ (((H1.out).below (by exact zB)).more (by simp;try omega)) m1).mono ?_
  rintro _ w1 ⟨rfl,hR1,hb1⟩
  have hB1:Below w.heap.size w w1:=bT (by exact zB) hb1
  have hs1:=hb1.size
  simp at hs1 hR1
  have:=fun o=>hb1.cell (p:=⟨w.heap.size,o,none⟩) (by simp;try omega)
  have:=fun o=>hb1.frozen (p:=⟨w.heap.size,o,none⟩) (by simp;try omega)
  have:=fun o=>hb1.cell (p:=⟨w.heap.size+1,o,none⟩) (by simp;try omega)
  have:=fun o=>hb1.frozen (p:=⟨w.heap.size+1,o,none⟩) (by simp;try omega)
  have:=fun o=>hb1.cell (p:=⟨w.heap.size+1+1,o,none⟩) (by simp;try omega)
  have:=fun o=>hb1.frozen (p:=⟨w.heap.size+1+1,o,none⟩) (by simp;try omega)
  have:w.heap.size<w.heap.size+1+1:=by omega
  have:w.heap.size≤w.heap.size+1:=by omega
  have:w.heap.size<w1.heap.size:=by omega
  have hl1:=hR1.lt
  go_wp2_with fail
  refine (toInt64S_any words b q _ (((H2.out).below (by exact zB)).more (by simp [World.setCell];try omega)) m2).mono ?_
  rintro _ w2 ⟨rfl,hR2,hb2⟩
  have hB2:Below w.heap.size w w2:=bT (by exact zB) hb2
  have hR3:=(hR1.setOther (a:=⟨w.heap.size+1+1,4,none⟩) (by simp;try omega) (.slice (some ⟨w.heap.size+1+1+1,0,none⟩) cells.length cells.length)).below hb2 (by simp [World.setCell];try omega)
  have hs2:=hb2.size
  simp [World.setCell] at hs2 hR2
  have:=fun o=>hb2.cell (p:=⟨w.heap.size,o,none⟩) (by simp [World.setCell];try omega)
  have:=fun o=>hb2.frozen (p:=⟨w.heap.size,o,none⟩) (by simp [World.setCell];try omega)
  have:=fun o=>hb2.cell (p:=⟨w.heap.size+1,o,none⟩) (by simp [World.setCell];try omega)
  have:=fun o=>hb2.frozen (p:=⟨w.heap.size+1,o,none⟩) (by simp [World.setCell];try omega)
  have:=fun o=>hb2.cell (p:=⟨w.heap.size+1+1,o,none⟩) (by simp [World.setCell];try omega)
  have:=fun o=>hb2.frozen (p:=⟨w.heap.size+1+1,o,none⟩) (by simp [World.setCell];try omega)
  have:w.heap.size+1+1+1≤w1.heap.size:=by omega
  clear hb1 hb2 hR1
  go_wp2_with fail
  refine bodyPost_ret (v:=.agg #[.int .i64 cap,.int .i64 sent,.int .i64 got,.int .i64 fin,.slice (some ⟨w.heap.size+1+1+1,0,none⟩) cells.length cells.length,.slice (some ⟨w1.heap.size,0,none⟩) words.length words.length]) (by simp [results,Try.results28,go_sem, *]) rfl ⟨⟨w.heap.size+1+1+1,w1.heap.size,rfl,by omega,by omega,?_,?_⟩,?_⟩
  · repeat (first|with_reducible exact hR3|((with_reducible refine Row.setOther ?_ ?_ _);rotate_left;(focus ((try simp);(try omega)))))
  · repeat (first|with_reducible exact hR2|((with_reducible refine Row.setOther ?_ ?_ _);rotate_left;(focus ((try simp);(try omega)))))
  · exact zB
set_option maxRecDepth 100000 in
set_option maxHeartbeats 1000000 in
theorem eqChan_any (c:Ch) (a b a' b':Option Addr) (p q p' q':Nat) (w:World) (h1:Seg w w.heap.size a c.cells.length 3 (cellF c.cells)) (h2:Seg w w.heap.size b c.words.length 1 (intF c.words)) (h3:Seg w w.heap.size a' c.cells.length 3 (cellF c.cells)) (h4:Seg w w.heap.size b' c.words.length 1 (intF c.words)) (m1:c.cells.length≤1048576) (m2:c.words.length≤1048576) :
    Calls Try.prog 35 #[.agg #[.int .i64 c.cap,.int .i64 c.sent,.int .i64 c.got,.int .i64 c.fin,.slice a c.cells.length p,.slice b c.words.length q],.agg #[.int .i64 c.cap,.int .i64 c.sent,.int .i64 c.got,.int .i64 c.fin,.slice a' c.cells.length p',.slice b' c.words.length q']] w fun r w'=>r=.returned (.bool true)∧Below w.heap.size w w':=by
  obtain ⟨cap,sent,got,fin,cells,words⟩:=c
  simp only at *
  have H1:=Lib.hid h1
  have H2:=Lib.hid h2
  have H3:=Lib.hid h3
  have H4:=Lib.hid h4
  clear h1 h2 h3 h4
  go_enter Try.func35,Try.ntmps35
  go_wp2_with fail
  refine (eqCellS_any cells a a' p p' _ (((H1.out).below (by exact zB)).more (by simp;try omega)) (((H3.out).below (by exact zB)).more (by simp;try omega)) m1).mono ?_
  rintro _ w1 ⟨rfl,hb1⟩
  have hB1:Below w.heap.size w w1:=bT (by exact zB) hb1
  have hs1:=hb1.size
  simp at hs1
  have:=fun o=>hb1.cell (p:=⟨w.heap.size,o,none⟩) (by simp;try omega)
  have:=fun o=>hb1.cell (p:=⟨w.heap.size+1,o,none⟩) (by simp;try omega)
  go_wp2_with fail
  refine (eqInt64S_any words b b' q q' _ (((H2.out).below hB1).more (by omega)) (((H4.out).below hB1).more (by omega)) m2).mono ?_
  rintro _ w2 ⟨rfl,hb2⟩
  have hB2:Below w.heap.size w w2:=bT hB1 hb2
  go_wp2
  go_ret
  exact ⟨rfl,hB2⟩
/-- What is left of a bound behind a list of n elements; -1 where there is too little. -/
def leftN (left:Int) (n:Nat):Int:=if left<n then -1 else left - n
def leftC (left:Int) (c:Ch):Int:=if leftN left c.cells.length<0 then -1 else leftN (leftN left c.cells.length) c.words.length
theorem leftN_no {left:Int} {n:Nat} (h:left<n):leftN left n=-1:=if_pos h
theorem leftN_yes {left:Int} {n:Nat} (h:¬ left<n):leftN left n=left - n:=if_neg h
set_option maxRecDepth 100000 in
set_option maxHeartbeats 1000000 in
theorem szChan_any (c:Ch) (a b:Option Addr) (p q:Nat) (left:Int) (w:World) (h0:0≤left) (h1:left≤1048576) (m1:c.cells.length≤maxLen) (m2:c.words.length≤maxLen) :
    Calls Try.prog 18 #[.agg #[.int .i64 c.cap,.int .i64 c.sent,.int .i64 c.got,.int .i64 c.fin,.slice a c.cells.length p,.slice b c.words.length q],.int .i64 left] w fun r w'=>r=.returned (.int .i64 (leftC left c))∧Below w.heap.size w w':=by
  have M1:=Lib.hid m1
  have M2:=Lib.hid m2
  clear m1 m2
  by_cases hc:left<c.cells.length
  · have HV:Hid (-1=leftC left c):=by unfold leftC;rw [leftN_no hc];rfl
    have HQ:Hid ((if left<(c.cells.length:Int) then (-1:Int) else left - c.cells.length)=-1):=if_pos hc
    clear hc
    go_enter Try.func18,Try.ntmps18
    go_wp2_with fail
    refine (szCellS_any _ _ _ _ _ h0 h1 M1.out).mono ?_
    rintro _ _ ⟨rfl,rfl⟩
    rw [HQ.out]
    go_wp2
    go_ret
    exact ⟨ret_i64 HV.out,by exact zB⟩
  · obtain ⟨l2,e2⟩:∃ l2,l2=left - c.cells.length:=⟨_,rfl⟩
    have HQ:Hid ((if left<(c.cells.length:Int) then (-1:Int) else left - c.cells.length)=l2):=by rw [e2];exact if_neg hc
    have hl0:0≤l2:=by omega
    have hl1:l2≤1048576:=by omega
    have hl2:¬ l2<0:=by omega
    have HL:Hid (leftC left c=leftN l2 c.words.length):=by unfold leftC;rw [leftN_yes hc,← e2,if_neg hl2];rfl
    clear hc e2
    by_cases hw:l2<c.words.length
    · have HV:Hid (-1=leftC left c):=by rw [HL.out,leftN_no hw];rfl
      have HQ2:Hid ((if l2<(c.words.length:Int) then (-1:Int) else l2 - c.words.length)=-1):=if_pos hw
      clear hw
      go_enter Try.func18,Try.ntmps18
      go_wp2_with fail
      refine (szCellS_any _ _ _ _ _ h0 h1 M1.out).mono ?_
      rintro _ _ ⟨rfl,rfl⟩
      rw [HQ.out]
      go_wp2_with fail
      refine (szInt64S_any _ _ _ _ _ hl0 hl1 M2.out).mono ?_
      rintro _ _ ⟨rfl,rfl⟩
      rw [HQ2.out]
      go_wp2
      go_ret
      exact ⟨ret_i64 HV.out,by exact zB⟩
    · obtain ⟨l3,e3⟩:∃ l3,l3=l2 - c.words.length:=⟨_,rfl⟩
      have HV:Hid (l3=leftC left c):=by rw [HL.out,leftN_yes hw,e3];rfl
      have HQ2:Hid ((if l2<(c.words.length:Int) then (-1:Int) else l2 - c.words.length)=l3):=by rw [e3];exact if_neg hw
      have hl3:¬ l3<0:=by omega
      clear hw e3
      go_enter Try.func18,Try.ntmps18
      go_wp2_with fail
      refine (szCellS_any _ _ _ _ _ h0 h1 M1.out).mono ?_
      rintro _ _ ⟨rfl,rfl⟩
      rw [HQ.out]
      go_wp2_with fail
      refine (szInt64S_any _ _ _ _ _ hl0 hl1 M2.out).mono ?_
      rintro _ _ ⟨rfl,rfl⟩
      rw [HQ2.out]
      go_wp2
      go_ret
      exact ⟨ret_i64 HV.out,by exact zB⟩
end Go.Proofs.Ytgpdocmclkpknaa
set_option linter.unusedSimpArgs false
set_option linter.unusedVariables false
namespace Go.Proofs.Ytgpdocmclkpknaa
open Go.RowKit
/-- Block b begins with n elements of k cells each, none frozen; f says what each cell holds. -/
def Lie (w:World) (b n k:Nat) (f:Nat→Nat→Value):Prop :=
  ∃ (c:Array Value) (t:TypeId),w.heap[b]?=some (.cells c t (0,0))∧n*k≤c.size∧∀ i j,i<n→j<k→c[i*k+j]?=some (f i j)
namespace Lie
variable {w w':World} {b n k:Nat} {f g:Nat→Nat→Value}
theorem cell (h:Lie w b n k f) {i j:Nat} (hi:i<n) (hj:j<k):w.cell? ⟨b,i*k+j,none⟩=some (f i j):=by
  obtain ⟨c,t,hb,_,hc⟩:=h
  simp [World.cell?,hb,hc i j hi hj]
theorem frozen (h:Lie w b n k f) (o:Nat):w.frozen? ⟨b,o,none⟩=false:=by
  obtain ⟨c,t,hb,_,_⟩:=h
  simp [World.frozen?,hb]
theorem lt (h:Lie w b n k f):b<w.heap.size:=by
  obtain ⟨c,t,hb,_,_⟩:=h
  exact (Array.getElem?_eq_some_iff.1 hb).1
theorem congr (h:Lie w b n k f) (e:∀ i j,i<n→j<k→f i j=g i j):Lie w b n k g:=by
  obtain ⟨c,t,hb,hn,hc⟩:=h
  exact ⟨c,t,hb,hn,fun i j hi hj=>by rw [hc i j hi hj,e i j hi hj]⟩
theorem of_block (h:Lie w b n k f) (e:w'.heap[b]?=w.heap[b]?):Lie w' b n k f:=by
  obtain ⟨c,t,hb,hn,hc⟩:=h
  exact ⟨c,t,e.trans hb,hn,hc⟩
theorem below {B:Nat} (h:Lie w b n k f) (hb:Below B w w') (hB:b<B):Lie w' b n k f:=h.of_block (hb.block b hB)
theorem set (h:Lie w b n k f) {i j:Nat} (hi:i<n) (hj:j<k) (v:Value):Lie (w.setCell ⟨b,i*k+j,none⟩ v) b n k (fun i' j'=>if i'=i∧j'=j then v else f i' j'):=by
  obtain ⟨c,t,hb,hn,hc⟩:=h
  refine ⟨c.setIfInBounds (i*k+j) v,t,?_,by simpa using hn,fun i' j' hi' hj'=>?_⟩
  · simp [World.setCell,Array.getElem?_modify,hb]
  · rw [Array.getElem?_setIfInBounds]
    by_cases e:i*k+j=i'*k+j'
    · obtain ⟨rfl,rfl⟩:=Row.idx hj hj' e
      have hlt:i*k+j<c.size:=(Array.getElem?_eq_some_iff.1 (hc i j hi hj)).1
      simp [hlt]
    · rw [if_neg e]
      show c[i'*k+j']?=some (if i'=i∧j'=j then v else f i' j')
      rw [if_neg (fun h=>e (by rw [h.1,h.2]))]
      exact hc i' j' hi' hj'
theorem set3 (h:Lie w b n 3 f) {i:Nat} (hi:i<n) (v:Nat→Value) :
    Lie (((w.setCell ⟨b,i*3,none⟩ (v 0)).setCell ⟨b,i*3+1,none⟩ (v 1)).setCell ⟨b,i*3+2,none⟩ (v 2)) b n 3 (fun i' j'=>if i'=i then v j' else f i' j'):=by
  refine (((h.set hi (j:=0) (by omega) (v 0)).set hi (j:=1) (by omega) (v 1)).set hi (j:=2) (by omega) (v 2)).congr fun i' j' _ hj=>?_
  have:j'=0∨j'=1∨j'=2:=by omega
  rcases this with rfl|rfl|rfl <;> by_cases e:i'=i <;> simp [e]
theorem set1 (h:Lie w b n 1 f) {i:Nat} (hi:i<n) (v:Value) :
    Lie (w.setCell ⟨b,i,none⟩ v) b n 1 (fun i' j'=>if i'=i then v else f i' j'):=by
  have h1:=h.set hi (j:=0) (by omega) v
  simp only [Nat.mul_one,Nat.add_zero] at h1
  refine h1.congr fun i' j' _ hj=>?_
  have:j'=0:=by omega
  subst this
  by_cases e:i'=i <;> simp [e]
theorem seg (h:Lie w b n k f):Seg w w.heap.size (some ⟨b,0,none⟩) n k f:=.inr ⟨b,0,rfl,h.lt,fun i j hi hj=>by simpa using h.cell hi hj⟩
end Lie
theorem Row.lie {w:World} {b:Nat} {t:TypeId} {n k:Nat} {f:Nat→Nat→Value} (h:Row w b t n k f):Lie w b n k f:=by
  obtain ⟨c,hb,hn,hc⟩:=h
  exact ⟨c,t,hb,Nat.le_of_eq hn.symm,hc⟩
/-- A list of n elements that is nothing, or lies from the start of a block on that is at or above lo. -/
def New (w:World) (lo:Nat) (v:Value) (n k:Nat) (f:Nat→Nat→Value):Prop :=
  (v=.slice none 0 0∧n=0)∨∃ g cap,v=.slice (some ⟨g,0,none⟩) n cap∧lo≤g∧Lie w g n k f
abbrev NewI (w:World) (lo:Nat) (v:Value) (l:List Int):Prop:=New w lo v l.length 1 (intF l)
abbrev NewC (w:World) (lo:Nat) (v:Value) (cs:List C3):Prop:=New w lo v cs.length 3 (cellF cs)
namespace New
variable {w w1:World} {lo n k:Nat} {v:Value} {f:Nat→Nat→Value}
theorem below (h:New w lo v n k f) (hb:Below w.heap.size w w1):New w1 lo v n k f:=by
  rcases h with h|⟨g,cap,h1,h2,h3⟩
  · exact .inl h
  · exact .inr ⟨g,cap,h1,h2,h3.below hb h3.lt⟩
theorem more {lo':Nat} (h:New w lo v n k f) (hl:lo'≤lo):New w lo' v n k f:=by
  rcases h with h|⟨g,cap,h1,h2,h3⟩
  · exact .inl h
  · exact .inr ⟨g,cap,h1,Nat.le_trans hl h2,h3⟩
theorem kept {row:Option Nat} (h:New w lo v n k f) (hg:w.grownBy w1 row) (hn:row=none∨v.ownBlock≠row):New w1 lo v n k f:=by
  rcases h with h|⟨g,cap,h1,h2,h3⟩
  · exact .inl h
  · refine .inr ⟨g,cap,h1,h2,h3.of_block (hg.block g h3.lt fun e=>?_)⟩
    subst h1
    rcases hn with rfl|hn
    · cases e
    · exact hn (by rw [← e];rfl)
theorem seg (h:New w lo v n k f):∃ a cap,v=.slice a n cap∧Seg w w.heap.size a n k f:=by
  rcases h with ⟨rfl,rfl⟩|⟨g,cap,rfl,_,h3⟩
  · exact ⟨none,0,rfl,.inl rfl⟩
  · exact ⟨_,cap,rfl,h3.seg⟩
theorem lt (h:New w lo v n k f) {b:Nat} (hb:v.ownBlock=some b):lo≤b∧b<w.heap.size:=by
  rcases h with ⟨rfl,_⟩|⟨g,cap,rfl,h2,h3⟩
  · cases hb
  · simp [Value.ownBlock] at hb
    subst hb
    exact ⟨h2,h3.lt⟩
end New
theorem OCells.new {w:World} {lo:Nat} {v:Value} {cs:List C3} (h:OCells w lo v cs):NewC w lo v cs:=by
  rcases h.2 with ⟨h1,h0⟩|⟨g,cap,cur,rfl,hl,hg,h4,h5,h6,h7⟩
  · exact .inl ⟨h1,h0⟩
  · refine .inr ⟨g,cap,rfl,hl,cur,_,hg,?_,fun i j hi hj=>?_⟩
    · have e:=congrArg List.length h7
      rw [List.length_take,flatC_len] at e
      simp at e;omega
    · have:=h.cells (g:=g) rfl (i*3+j) _ (flatC_get cs i j hi hj)
      have e2:(⟨g,0,none⟩:Addr).add (i*3+j)=⟨g,i*3+j,none⟩:=by generalize i*3+j=m;by_cases e:m=0 <;> simp [Addr.add,e]
      rw [e2] at this
      simpa [World.cell?,hg] using this
theorem OInts.new {w:World} {lo:Nat} {v:Value} {l:List Int} (h:OInts w lo v l):NewI w lo v l:=by
  rcases h.2 with ⟨h1,h0⟩|⟨g,cap,cur,rfl,hl,hg,h4,h5,h6,h7⟩
  · exact .inl ⟨h1,h0⟩
  · refine .inr ⟨g,cap,rfl,hl,cur,_,hg,?_,fun i j hi hj=>?_⟩
    · have e:=congrArg List.length h7
      rw [List.length_take,ints_len] at e
      simp at e;omega
    · have hj0:j=0:=by omega
      subst hj0
      have:=h.cells (g:=g) rfl i (intF l i 0) (by simp [ints,intF,List.getD,hi])
      have e2:(⟨g,0,none⟩:Addr).add i=⟨g,i,none⟩:=by by_cases e:i=0 <;> simp [Addr.add,e]
      rw [e2] at this
      simpa [World.cell?,hg] using this
/-- Of what was there, the blocks a and b alone may have turned. -/
def Onl (a b:Option Nat) (w w':World):Prop :=
  w'.os=w.os∧w'.tape=w.tape∧w'.output=w.output∧w.heap.size≤w'.heap.size∧∀ i,i<w.heap.size→some i≠a→some i≠b→w'.heap[i]?=w.heap[i]?
theorem onlT {a b:Option Nat} {w W w1:World} (h:Onl a b w W) (k:Onl a b W w1):Onl a b w w1 :=
  ⟨k.1.trans h.1,k.2.1.trans h.2.1,k.2.2.1.trans h.2.2.1,Nat.le_trans h.2.2.2.1 k.2.2.2.1,fun i hi h1 h2=>(k.2.2.2.2 i (Nat.lt_of_lt_of_le hi h.2.2.2.1) h1 h2).trans (h.2.2.2.2 i hi h1 h2)⟩
theorem onl1 {a b:Option Nat} {w W:World} (h:w.grownBy W a):Onl a b w W:=⟨h.os,h.tape,h.output,h.size,fun i hi h1 _=>h.block i hi h1⟩
theorem onl2 {a b:Option Nat} {w W:World} (h:w.grownBy W b):Onl a b w W:=⟨h.os,h.tape,h.output,h.size,fun i hi _ h1=>h.block i hi h1⟩
theorem New.keptO {w w1:World} {lo n k:Nat} {v:Value} {f:Nat→Nat→Value} {a b:Option Nat} (h:New w lo v n k f) (ho:Onl a b w w1) (h1:∀ i,v.ownBlock=some i→a≠some i) (h2:∀ i,v.ownBlock=some i→b≠some i):New w1 lo v n k f:=by
  rcases h with h|⟨g,cap,e,h3,h4⟩
  · exact .inl h
  · subst e
    exact .inr ⟨g,cap,rfl,h3,h4.of_block (ho.2.2.2.2 g h4.lt (fun e=>h1 g rfl e.symm) (fun e=>h2 g rfl e.symm))⟩
theorem grCell {r:Option Nat} {b:Nat} {w w1:World} (h:w.grownBy w1 r) (hb:b<w.heap.size) (hn:some b≠r) (o:Nat):w1.cell? ⟨b,o,none⟩=w.cell? ⟨b,o,none⟩:=World.cell?_of_block (h.block b hb hn)
theorem grA {w W:World} {r:Option Nat} (o:Obj) (h:(w.alloc o).grownBy W r):w.grownBy W r :=
  ⟨h.os,h.tape,h.output,Nat.le_trans (by simp) h.size,fun i hi hn=>(h.block i (by simp;omega) hn).trans (Below.heap_alloc w o i hi)⟩
theorem grFroz {r:Option Nat} {b:Nat} {w w1:World} (h:w.grownBy w1 r) (hb:b<w.heap.size) (hn:some b≠r) (o:Nat):w1.frozen? ⟨b,o,none⟩=w.frozen? ⟨b,o,none⟩:=World.frozen?_of_block (h.block b hb hn)
end Go.Proofs.Ytgpdocmclkpknaa
set_option linter.unusedSimpArgs false
set_option linter.unusedVariables false
namespace Go.Proofs.Ytgpdocmclkpknaa
open Go.RowKit
/- The numbers that are written. -/
def marksI (k:Int) (n:Nat):List Int:=(List.range n).map fun (i:Nat)=>k+(i:Int)
def marksC (k:Int) (n:Nat):List C3:=(List.range n).map fun (i:Nat)=>⟨k+3*(i:Int),k+3*(i:Int)+1,k+3*(i:Int)+2⟩
theorem marksI_len (k:Int) (n:Nat):(marksI k n).length=n:=by simp [marksI]
theorem marksC_len (k:Int) (n:Nat):(marksC k n).length=n:=by simp [marksC]
theorem marksI_get {k:Int} {n i:Nat} (h:i<n):(marksI k n).getD i 0=k+(i:Int):=by simp [marksI,List.getD,h]
theorem marksC_get {k:Int} {n i:Nat} (h:i<n):(marksC k n).getD i ⟨0,0,0⟩=⟨k+3*(i:Int),k+3*(i:Int)+1,k+3*(i:Int)+2⟩:=by simp [marksC,List.getD,h]
def mkI (k:Int) (f:Nat→Nat→Value) (m i j:Nat):Value:=if i<m then .int .i64 (k+(i:Int)) else f i j
def mkC (k:Int) (f:Nat→Nat→Value) (m i j:Nat):Value:=if i<m then C3.val ⟨k+3*(i:Int),k+3*(i:Int)+1,k+3*(i:Int)+2⟩ j else f i j
theorem mkI_0 (k:Int) (f:Nat→Nat→Value):mkI k f 0=f:=by funext i j;simp [mkI]
theorem mkC_0 (k:Int) (f:Nat→Nat→Value):mkC k f 0=f:=by funext i j;simp [mkC]
theorem mkI_step {k x:Int} {f:Nat→Nat→Value} {m:Nat} (h:x=k+(m:Int)) (i j:Nat):(if i=m then Value.int .i64 x else mkI k f m i j)=mkI k f (m+1) i j:=by
  subst h
  unfold mkI
  by_cases e:i=m
  · subst e;rw [if_pos rfl,if_pos (by omega)]
  · rw [if_neg e]
    by_cases e2:i<m
    · rw [if_pos e2,if_pos (by omega)]
    · rw [if_neg e2,if_neg (by omega)]
theorem mkC_step {k:Int} {f:Nat→Nat→Value} {m:Nat} {c:C3} (h:c=⟨k+3*(m:Int),k+3*(m:Int)+1,k+3*(m:Int)+2⟩) (i j:Nat):(if i=m then c.val j else mkC k f m i j)=mkC k f (m+1) i j:=by
  subst h
  unfold mkC
  by_cases e:i=m
  · subst e;rw [if_pos rfl,if_pos (by omega)]
  · rw [if_neg e]
    by_cases e2:i<m
    · rw [if_pos e2,if_pos (by omega)]
    · rw [if_neg e2,if_neg (by omega)]
theorem mkI_end (k:Int) (f:Nat→Nat→Value) (n:Nat):∀ i j,i<n→j<1→mkI k f n i j=intF (marksI k n) i j:=fun i j hi _=>by simp only [mkI,intF,marksI_get hi,if_pos hi]
theorem mkC_end (k:Int) (f:Nat→Nat→Value) (n:Nat):∀ i j,i<n→j<3→mkC k f n i j=cellF (marksC k n) i j:=fun i j hi _=>by simp only [mkC,cellF,marksC_get hi,if_pos hi]
theorem grS {w W:World} {g:Nat} {p:Addr} {u:Value} (h:w.grownBy W (some g)) (hp:p.block=g):w.grownBy (W.setCell p u) (some g) :=
  ⟨h.os,h.tape,h.output,by simpa [World.setCell] using h.size,fun k hk hn=>(Below.heap_setCell W p u k (by
    rintro rfl
    exact hn (by rw [hp]))).trans (h.block k hk hn)⟩
theorem grR (w:World) (row:Option Nat):w.grownBy w row:=⟨rfl,rfl,rfl,Nat.le_refl _,fun _ _ _=>rfl⟩
set_option maxHeartbeats 400000 in
theorem markInt64S_any (n:Nat) (f:Nat→Nat→Value) (lo:Nat) (v:Value) (k:Int) (w:World) (h:New w lo v n 1 f) (h0:0≤k) (h1:k≤1099511627776) (hm:n≤1048576) :
    Calls Try.prog 77 #[v,.int .i64 k] w fun r w'=>r=.returned (.int .i64 (k+n))∧NewI w' lo v (marksI k n)∧w.grownBy w' v.ownBlock:=by
  rcases h with ⟨rfl,rfl⟩|⟨g,cap,rfl,hl,hL⟩
  · go_enter Try.func77,Try.ntmps77
    go_wp2
    go_loopw [1,5] (fun q i wr=>i=.int .i64 0∧q=.int .i64 k∧wr=w) (fun _ i _=>0 - (intOf i).toNat)
    case atStart=>exact ⟨rfl,rfl,rfl⟩
    case round =>
      obtain ⟨rfl,rfl,rfl⟩:=hrel
      go_wp2
      go_ret
      exact ⟨by simp,.inl ⟨rfl,rfl⟩,grR _ _⟩
  · have hW:=grR w (some g)
    go_enter Try.func77,Try.ntmps77
    go_wp2
    go_loopw [1,5] (fun q i wr=>∃ m:Nat,m≤n∧i=.int .i64 m∧q=.int .i64 (k+m)∧Lie wr g n 1 (mkI k f m)∧w.grownBy wr (some g)) (fun _ i _=>n - (intOf i).toNat)
    case atStart=>exact ⟨0,Nat.zero_le _,rfl,by simp,by rw [mkI_0];exact hL,hW⟩
    case round =>
      clear hL hW
      obtain ⟨m,hk,rfl,rfl,hL,hW⟩:=hrel
      by_cases hlt:m<n
      · have e0:=hL.cell hlt (show 0<1 by omega)
        simp only [Nat.add_zero,Nat.mul_one] at e0
        have f1:=hL.frozen
        go_wp2
        go_roundw
        case rel=>exact ⟨m+1,by omega,by go_num,by go_num,(hL.set1 hlt (.int .i64 (k+m))).congr (fun i j _ _=>mkI_step rfl i j),grS hW rfl⟩
        case measure=>simp [intOf];omega
      · have:m=n:=by omega
        subst this
        go_wp2
        go_ret
        exact ⟨rfl,.inr ⟨g,cap,by rw [marksI_len],hl,by rw [marksI_len];exact hL.congr (mkI_end k f m)⟩,hW⟩
set_option maxHeartbeats 1000000 in
theorem markCellS_any (n:Nat) (f:Nat→Nat→Value) (lo:Nat) (v:Value) (k:Int) (w:World) (h:New w lo v n 3 f) (h0:0≤k) (h1:k≤1099511627776) (hm:n≤1048576) :
    Calls Try.prog 76 #[v,.int .i64 k] w fun r w'=>r=.returned (.int .i64 (k+3*n))∧NewC w' lo v (marksC k n)∧w.grownBy w' v.ownBlock:=by
  rcases h with ⟨rfl,rfl⟩|⟨g,cap,rfl,hl,hL⟩
  · go_enter Try.func76,Try.ntmps76
    go_wp2
    go_loopw [1,5] (fun q i wr=>i=.int .i64 0∧q=.int .i64 k∧wr=w) (fun _ i _=>0 - (intOf i).toNat)
    case atStart=>exact ⟨rfl,rfl,rfl⟩
    case round =>
      obtain ⟨rfl,rfl,rfl⟩:=hrel
      go_wp2
      go_ret
      exact ⟨by simp,.inl ⟨rfl,rfl⟩,grR _ _⟩
  · have hW:=grR w (some g)
    go_enter Try.func76,Try.ntmps76
    go_wp2
    go_loopw [1,5] (fun q i wr=>∃ m:Nat,m≤n∧i=.int .i64 m∧q=.int .i64 (k+3*m)∧Lie wr g n 3 (mkC k f m)∧w.grownBy wr (some g)) (fun _ i _=>n - (intOf i).toNat)
    case atStart=>exact ⟨0,Nat.zero_le _,rfl,by simp,by rw [mkC_0];exact hL,hW⟩
    case round =>
      clear hL hW
      obtain ⟨m,hk,rfl,rfl,hL,hW⟩:=hrel
      by_cases hlt:m<n
      · have e0:=hL.cell hlt (show 0<3 by omega)
        have e1:=hL.cell hlt (show 1<3 by omega)
        have e2:=hL.cell hlt (show 2<3 by omega)
        simp only [Nat.add_zero] at e0
        have f1:=hL.frozen
        go_wp2
        go_roundw
        case rel=>exact ⟨m+1,by omega,by go_num,by go_num,(hL.set3 hlt (C3.val ⟨k+3*(m:Int),k+3*(m:Int)+1,k+3*(m:Int)+1+1⟩)).congr (fun i j _ _=>mkC_step (by congr 1;omega) i j),grS (grS (grS hW rfl) rfl) rfl⟩
        case measure=>simp [intOf];omega
      · have:m=n:=by omega
        subst this
        go_wp2
        go_ret
        exact ⟨rfl,.inr ⟨g,cap,by rw [marksC_len],hl,by rw [marksC_len];exact hL.congr (mkC_end k f m)⟩,hW⟩
set_option maxHeartbeats 1000000 in
theorem heldInt64S_any (n:Nat) (lo:Nat) (v:Value) (k:Int) (w:World) (h:NewI w lo v (marksI k n)) (h0:0≤k) (h1:k≤1099511627776) (hm:n≤1048576) :
    Calls Try.prog 79 #[v,.int .i64 k] w fun r w'=>r=.returned (.int .i64 (k+n))∧Below w.heap.size w w':=by
  obtain ⟨a,cap,rfl,hS⟩:=h.seg
  rw [marksI_len] at hS ⊢
  have HS:=Lib.hid hS
  clear hS h
  go_enter Try.func79,Try.ntmps79
  go_wp2
  go_loopw [1,5] (fun q i wr=>∃ m:Nat,m≤n∧i=.int .i64 m∧q=.int .i64 (k+m)∧Below w.heap.size w wr) (fun _ i _=>n - (intOf i).toNat)
  case atStart=>exact ⟨0,Nat.zero_le _,rfl,by simp,Below.refl _ _⟩
  case round =>
    obtain ⟨m,hk,rfl,rfl,hB⟩:=hrel
    by_cases hlt:m<n
    · obtain h0'|⟨b,o,rfl,hb,hc⟩:=HS.out
      · omega
      have c0:=(hB.cell (p:=⟨b,o+m*1+0,none⟩) hb).trans (hc m 0 hlt (by omega))
      simp only [intF,Nat.add_zero,Nat.mul_one,marksI_get hlt] at c0
      clear hc
      have hk0:(0:Int)≤(m:Int):=by omega
      have hk1:(m:Int)<(n:Int):=by omega
      go_wp2
      go_roundw
      case rel=>exact ⟨m+1,by omega,by go_num,by go_num,by exact zB⟩
      case measure=>simp [intOf];omega
    · have:m=n:=by omega
      subst this
      go_wp2
      go_ret
      exact ⟨rfl,hB⟩
set_option maxHeartbeats 1000000 in
theorem heldCellS_any (n:Nat) (lo:Nat) (v:Value) (k:Int) (w:World) (h:NewC w lo v (marksC k n)) (h0:0≤k) (h1:k≤1099511627776) (hm:n≤1048576) :
    Calls Try.prog 78 #[v,.int .i64 k] w fun r w'=>r=.returned (.int .i64 (k+3*n))∧Below w.heap.size w w':=by
  obtain ⟨a,cap,rfl,hS⟩:=h.seg
  rw [marksC_len] at hS ⊢
  have HS:=Lib.hid hS
  clear hS h
  go_enter Try.func78,Try.ntmps78
  go_wp2
  go_loopw [1,5] (fun q i wr=>∃ m:Nat,m≤n∧i=.int .i64 m∧q=.int .i64 (k+3*m)∧Below w.heap.size w wr) (fun _ i _=>n - (intOf i).toNat)
  case atStart=>exact ⟨0,Nat.zero_le _,rfl,by simp,Below.refl _ _⟩
  case round =>
    obtain ⟨m,hk,rfl,rfl,hB⟩:=hrel
    by_cases hlt:m<n
    · obtain h0'|⟨b,o,rfl,hb,hc⟩:=HS.out
      · omega
      have c0:=(hB.cell (p:=⟨b,o+m*3+0,none⟩) hb).trans (hc m 0 hlt (by omega))
      have c1:=(hB.cell (p:=⟨b,o+m*3+1,none⟩) hb).trans (hc m 1 hlt (by omega))
      have c2:=(hB.cell (p:=⟨b,o+m*3+2,none⟩) hb).trans (hc m 2 hlt (by omega))
      have e2:k+3*(m:Int)+2=k+3*(m:Int)+1+1:=by omega
      simp only [cellF,C3.val,Nat.add_zero,marksC_get hlt,e2] at c0 c1 c2
      clear hc
      have hk0:(0:Int)≤(m:Int):=by omega
      have hk1:(m:Int)<(n:Int):=by omega
      go_wp2
      go_roundw
      case rel=>exact ⟨m+1,by omega,by go_num,by go_num,by exact zB⟩
      case measure=>simp [intOf];omega
    · have:m=n:=by omega
      subst this
      go_wp2
      go_ret
      exact ⟨rfl,hB⟩
end Go.Proofs.Ytgpdocmclkpknaa
set_option linter.unusedSimpArgs false
set_option linter.unusedVariables false
namespace Go.Proofs.Ytgpdocmclkpknaa
open Go.RowKit
def numF (K:Nat) (k:Int) (i j:Nat):Value:=.int .i64 (k+(K:Int)*(i:Int)+(j:Int))
def partN (f z:Nat→Nat→Value) (m i j:Nat):Value:=if i<m then f i j else z i j
theorem partN_0 (f z:Nat→Nat→Value):partN f z 0=z:=by funext i j;simp [partN]
theorem partN_end (f z:Nat→Nat→Value) (n K:Nat):∀ i j,i<n→j<K→partN f z n i j=f i j:=fun i j hi _=>by simp only [partN,if_pos hi]
theorem partN_step {f z:Nat→Nat→Value} {v:Nat→Value} {m j:Nat} (h:v j=f m j) (i:Nat):(if i=m then v j else partN f z m i j)=partN f z (m+1) i j:=by
  unfold partN
  by_cases e:i=m
  · subst e;rw [if_pos rfl,if_pos (by omega),h]
  · rw [if_neg e]
    by_cases e2:i<m
    · rw [if_pos e2,if_pos (by omega)]
    · rw [if_neg e2,if_neg (by omega)]
set_option maxHeartbeats 4000000 in
theorem Lie.set14 {w:World} {b n:Nat} {f:Nat→Nat→Value} (h:Lie w b n 14 f) {i:Nat} (hi:i<n) (v:Nat→Value) :
    Lie ((((((((((((((w.setCell ⟨b,i*14,none⟩ (v 0)).setCell ⟨b,i*14+1,none⟩ (v 1)).setCell ⟨b,i*14+2,none⟩ (v 2)).setCell ⟨b,i*14+3,none⟩ (v 3)).setCell ⟨b,i*14+4,none⟩ (v 4)).setCell ⟨b,i*14+5,none⟩ (v 5)).setCell ⟨b,i*14+6,none⟩ (v 6)).setCell ⟨b,i*14+7,none⟩ (v 7)).setCell ⟨b,i*14+8,none⟩ (v 8)).setCell ⟨b,i*14+9,none⟩ (v 9)).setCell ⟨b,i*14+10,none⟩ (v 10)).setCell ⟨b,i*14+11,none⟩ (v 11)).setCell ⟨b,i*14+12,none⟩ (v 12)).setCell ⟨b,i*14+13,none⟩ (v 13)) b n 14 (fun i' j'=>if i'=i then v j' else f i' j'):=by
  refine ((((((((((((((h.set hi (j:=0) (by omega) (v 0)).set hi (j:=1) (by omega) (v 1)).set hi (j:=2) (by omega) (v 2)).set hi (j:=3) (by omega) (v 3)).set hi (j:=4) (by omega) (v 4)).set hi (j:=5) (by omega) (v 5)).set hi (j:=6) (by omega) (v 6)).set hi (j:=7) (by omega) (v 7)).set hi (j:=8) (by omega) (v 8)).set hi (j:=9) (by omega) (v 9)).set hi (j:=10) (by omega) (v 10)).set hi (j:=11) (by omega) (v 11)).set hi (j:=12) (by omega) (v 12)).set hi (j:=13) (by omega) (v 13)).congr fun i' j' _ hj=>?_
  have:j'=0∨j'=1∨j'=2∨j'=3∨j'=4∨j'=5∨j'=6∨j'=7∨j'=8∨j'=9∨j'=10∨j'=11∨j'=12∨j'=13:=by omega
  rcases this with rfl|rfl|rfl|rfl|rfl|rfl|rfl|rfl|rfl|rfl|rfl|rfl|rfl|rfl <;> by_cases e:i'=i <;> simp [e]
set_option maxHeartbeats 4000000 in
theorem Lie.set7 {w:World} {b n:Nat} {f:Nat→Nat→Value} (h:Lie w b n 7 f) {i:Nat} (hi:i<n) (v:Nat→Value) :
    Lie (((((((w.setCell ⟨b,i*7,none⟩ (v 0)).setCell ⟨b,i*7+1,none⟩ (v 1)).setCell ⟨b,i*7+2,none⟩ (v 2)).setCell ⟨b,i*7+3,none⟩ (v 3)).setCell ⟨b,i*7+4,none⟩ (v 4)).setCell ⟨b,i*7+5,none⟩ (v 5)).setCell ⟨b,i*7+6,none⟩ (v 6)) b n 7 (fun i' j'=>if i'=i then v j' else f i' j'):=by
  refine (((((((h.set hi (j:=0) (by omega) (v 0)).set hi (j:=1) (by omega) (v 1)).set hi (j:=2) (by omega) (v 2)).set hi (j:=3) (by omega) (v 3)).set hi (j:=4) (by omega) (v 4)).set hi (j:=5) (by omega) (v 5)).set hi (j:=6) (by omega) (v 6)).congr fun i' j' _ hj=>?_
  have:j'=0∨j'=1∨j'=2∨j'=3∨j'=4∨j'=5∨j'=6:=by omega
  rcases this with rfl|rfl|rfl|rfl|rfl|rfl|rfl <;> by_cases e:i'=i <;> simp [e]
set_option maxHeartbeats 4000000 in
theorem Row.set14 {w:World} {b n:Nat} {t:TypeId} {f:Nat→Nat→Value} (h:Row w b t n 14 f) {i:Nat} (hi:i<n) (v:Nat→Value) :
    Row ((((((((((((((w.setCell ⟨b,i*14,none⟩ (v 0)).setCell ⟨b,i*14+1,none⟩ (v 1)).setCell ⟨b,i*14+2,none⟩ (v 2)).setCell ⟨b,i*14+3,none⟩ (v 3)).setCell ⟨b,i*14+4,none⟩ (v 4)).setCell ⟨b,i*14+5,none⟩ (v 5)).setCell ⟨b,i*14+6,none⟩ (v 6)).setCell ⟨b,i*14+7,none⟩ (v 7)).setCell ⟨b,i*14+8,none⟩ (v 8)).setCell ⟨b,i*14+9,none⟩ (v 9)).setCell ⟨b,i*14+10,none⟩ (v 10)).setCell ⟨b,i*14+11,none⟩ (v 11)).setCell ⟨b,i*14+12,none⟩ (v 12)).setCell ⟨b,i*14+13,none⟩ (v 13)) b t n 14 (fun i' j'=>if i'=i then v j' else f i' j'):=by
  refine ((((((((((((((h.set hi (j:=0) (by omega) (v 0)).set hi (j:=1) (by omega) (v 1)).set hi (j:=2) (by omega) (v 2)).set hi (j:=3) (by omega) (v 3)).set hi (j:=4) (by omega) (v 4)).set hi (j:=5) (by omega) (v 5)).set hi (j:=6) (by omega) (v 6)).set hi (j:=7) (by omega) (v 7)).set hi (j:=8) (by omega) (v 8)).set hi (j:=9) (by omega) (v 9)).set hi (j:=10) (by omega) (v 10)).set hi (j:=11) (by omega) (v 11)).set hi (j:=12) (by omega) (v 12)).set hi (j:=13) (by omega) (v 13)).congr fun i' j' _ hj=>?_
  have:j'=0∨j'=1∨j'=2∨j'=3∨j'=4∨j'=5∨j'=6∨j'=7∨j'=8∨j'=9∨j'=10∨j'=11∨j'=12∨j'=13:=by omega
  rcases this with rfl|rfl|rfl|rfl|rfl|rfl|rfl|rfl|rfl|rfl|rfl|rfl|rfl|rfl <;> by_cases e:i'=i <;> simp [e]
set_option maxHeartbeats 4000000 in
theorem Row.set7 {w:World} {b n:Nat} {t:TypeId} {f:Nat→Nat→Value} (h:Row w b t n 7 f) {i:Nat} (hi:i<n) (v:Nat→Value) :
    Row (((((((w.setCell ⟨b,i*7,none⟩ (v 0)).setCell ⟨b,i*7+1,none⟩ (v 1)).setCell ⟨b,i*7+2,none⟩ (v 2)).setCell ⟨b,i*7+3,none⟩ (v 3)).setCell ⟨b,i*7+4,none⟩ (v 4)).setCell ⟨b,i*7+5,none⟩ (v 5)).setCell ⟨b,i*7+6,none⟩ (v 6)) b t n 7 (fun i' j'=>if i'=i then v j' else f i' j'):=by
  refine (((((((h.set hi (j:=0) (by omega) (v 0)).set hi (j:=1) (by omega) (v 1)).set hi (j:=2) (by omega) (v 2)).set hi (j:=3) (by omega) (v 3)).set hi (j:=4) (by omega) (v 4)).set hi (j:=5) (by omega) (v 5)).set hi (j:=6) (by omega) (v 6)).congr fun i' j' _ hj=>?_
  have:j'=0∨j'=1∨j'=2∨j'=3∨j'=4∨j'=5∨j'=6:=by omega
  rcases this with rfl|rfl|rfl|rfl|rfl|rfl|rfl <;> by_cases e:i'=i <;> simp [e]
end Go.Proofs.Ytgpdocmclkpknaa
set_option linter.unusedSimpArgs false
set_option linter.unusedVariables false
namespace Go.Proofs.Ytgpdocmclkpknaa
def callOk (k e:Int):Bool:=(k == 1 && inB e 0 999) || (k == 2 && e == 0)
def replyOk (k e r:Int):Bool:=callOk k e && (inB r 1 4 && ((k == 1 || r != 1) && (k == 2 || r != 2)))
def noCall (k e:Int):Bool:=k == 0 && e == 0
def handA (h:Ha):Bool:=inB h.pos 0 25 && (if h.pos == 0 then noCall h.code h.elem else callOk h.code h.elem)
def handB (h:Ha):Bool:=inB h.cell 0 39 && (inB h.grow 0 39 && (inB h.seen 0 10 && (inB h.wait 0 80 && inB h.mine 0 80)))
def handC (h:Ha):Bool:=inB h.fin 0 40 && (inB h.come 0 40 && (inB h.nxt 0 2 && (inB h.beg 0 20000 && (inB h.reply 0 4 && inB h.out 0 999))))
def handOk (h:Ha):Bool:=handA h && (handB h && handC h)
def resting (r o:Int):Ha:=⟨0,0,0,0,0,0,0,0,0,0,0,0,r,o⟩
def begun (k e b:Int):Ha:=⟨if k == 2 then 9 else 1,k,e,0,0,0,0,0,0,0,0,b,0,0⟩
/-- What is answered to a call, and the code. -/
def called (h:Ha) (k e:Int):Ha × Int:=if handOk h then (if h.pos == 0 then (if callOk k e then (begun k e 0,0) else (h,2)) else (h,1)) else (Ha.zero,3)
end Go.Proofs.Ytgpdocmclkpknaa
set_option linter.unusedSimpArgs false
set_option linter.unusedVariables false
namespace Go.Proofs.Ytgpdocmclkpknaa
open Go.RowKit
/-- A hand as it lies in memory. -/
def hvals (h:Ha):Array Value:=#[.int .i64 h.pos,.int .i64 h.code,.int .i64 h.elem,.int .i64 h.cell,.int .i64 h.seen,.int .i64 h.wait,.int .i64 h.fin,.int .i64 h.come,.int .i64 h.grow,.int .i64 h.mine,.int .i64 h.nxt,.int .i64 h.beg,.int .i64 h.reply,.int .i64 h.out]
theorem hv_ne (h:Ha):(hvals h=#[])=False:=by simp [hvals]
theorem hv_size (h:Ha):(hvals h).size=14:=rfl
theorem hv_get0 (h:Ha):(hvals h)[0]?=some (.int .i64 h.pos):=rfl
theorem hv_set0 (h:Ha) (x:Int):(hvals h).setIfInBounds 0 (.int .i64 x)=hvals { h with pos:=x }:=rfl
theorem hv_get1 (h:Ha):(hvals h)[1]?=some (.int .i64 h.code):=rfl
theorem hv_set1 (h:Ha) (x:Int):(hvals h).setIfInBounds 1 (.int .i64 x)=hvals { h with code:=x }:=rfl
theorem hv_get2 (h:Ha):(hvals h)[2]?=some (.int .i64 h.elem):=rfl
theorem hv_set2 (h:Ha) (x:Int):(hvals h).setIfInBounds 2 (.int .i64 x)=hvals { h with elem:=x }:=rfl
theorem hv_get3 (h:Ha):(hvals h)[3]?=some (.int .i64 h.cell):=rfl
theorem hv_set3 (h:Ha) (x:Int):(hvals h).setIfInBounds 3 (.int .i64 x)=hvals { h with cell:=x }:=rfl
theorem hv_get4 (h:Ha):(hvals h)[4]?=some (.int .i64 h.seen):=rfl
theorem hv_set4 (h:Ha) (x:Int):(hvals h).setIfInBounds 4 (.int .i64 x)=hvals { h with seen:=x }:=rfl
theorem hv_get5 (h:Ha):(hvals h)[5]?=some (.int .i64 h.wait):=rfl
theorem hv_set5 (h:Ha) (x:Int):(hvals h).setIfInBounds 5 (.int .i64 x)=hvals { h with wait:=x }:=rfl
theorem hv_get6 (h:Ha):(hvals h)[6]?=some (.int .i64 h.fin):=rfl
theorem hv_set6 (h:Ha) (x:Int):(hvals h).setIfInBounds 6 (.int .i64 x)=hvals { h with fin:=x }:=rfl
theorem hv_get7 (h:Ha):(hvals h)[7]?=some (.int .i64 h.come):=rfl
theorem hv_set7 (h:Ha) (x:Int):(hvals h).setIfInBounds 7 (.int .i64 x)=hvals { h with come:=x }:=rfl
theorem hv_get8 (h:Ha):(hvals h)[8]?=some (.int .i64 h.grow):=rfl
theorem hv_set8 (h:Ha) (x:Int):(hvals h).setIfInBounds 8 (.int .i64 x)=hvals { h with grow:=x }:=rfl
theorem hv_get9 (h:Ha):(hvals h)[9]?=some (.int .i64 h.mine):=rfl
theorem hv_set9 (h:Ha) (x:Int):(hvals h).setIfInBounds 9 (.int .i64 x)=hvals { h with mine:=x }:=rfl
theorem hv_get10 (h:Ha):(hvals h)[10]?=some (.int .i64 h.nxt):=rfl
theorem hv_set10 (h:Ha) (x:Int):(hvals h).setIfInBounds 10 (.int .i64 x)=hvals { h with nxt:=x }:=rfl
theorem hv_get11 (h:Ha):(hvals h)[11]?=some (.int .i64 h.beg):=rfl
theorem hv_set11 (h:Ha) (x:Int):(hvals h).setIfInBounds 11 (.int .i64 x)=hvals { h with beg:=x }:=rfl
theorem hv_get12 (h:Ha):(hvals h)[12]?=some (.int .i64 h.reply):=rfl
theorem hv_set12 (h:Ha) (x:Int):(hvals h).setIfInBounds 12 (.int .i64 x)=hvals { h with reply:=x }:=rfl
theorem hv_get13 (h:Ha):(hvals h)[13]?=some (.int .i64 h.out):=rfl
theorem hv_set13 (h:Ha) (x:Int):(hvals h).setIfInBounds 13 (.int .i64 x)=hvals { h with out:=x }:=rfl
/-- A channel as it lies in memory, with its lists. -/
def cvals (c:Ch) (v1 v2:Value):Array Value:=#[.int .i64 c.cap,.int .i64 c.sent,.int .i64 c.got,.int .i64 c.fin,v1,v2]
theorem cv_ne (c:Ch) (v1 v2:Value):(cvals c v1 v2=#[])=False:=by simp [cvals]
theorem cv_size (c:Ch) (v1 v2:Value):(cvals c v1 v2).size=6:=rfl
theorem cv_get0 (c:Ch) (v1 v2:Value):(cvals c v1 v2)[0]?=some (.int .i64 c.cap):=rfl
theorem cv_set0 (c:Ch) (v1 v2:Value) (x:Int):(cvals c v1 v2).setIfInBounds 0 (.int .i64 x)=cvals { c with cap:=x } v1 v2:=rfl
theorem cv_get1 (c:Ch) (v1 v2:Value):(cvals c v1 v2)[1]?=some (.int .i64 c.sent):=rfl
theorem cv_set1 (c:Ch) (v1 v2:Value) (x:Int):(cvals c v1 v2).setIfInBounds 1 (.int .i64 x)=cvals { c with sent:=x } v1 v2:=rfl
theorem cv_get2 (c:Ch) (v1 v2:Value):(cvals c v1 v2)[2]?=some (.int .i64 c.got):=rfl
theorem cv_set2 (c:Ch) (v1 v2:Value) (x:Int):(cvals c v1 v2).setIfInBounds 2 (.int .i64 x)=cvals { c with got:=x } v1 v2:=rfl
theorem cv_get3 (c:Ch) (v1 v2:Value):(cvals c v1 v2)[3]?=some (.int .i64 c.fin):=rfl
theorem cv_set3 (c:Ch) (v1 v2:Value) (x:Int):(cvals c v1 v2).setIfInBounds 3 (.int .i64 x)=cvals { c with fin:=x } v1 v2:=rfl
theorem cv_get4 (c:Ch) (v1 v2:Value):(cvals c v1 v2)[4]?=some v1:=rfl
theorem cv_get5 (c:Ch) (v1 v2:Value):(cvals c v1 v2)[5]?=some v2:=rfl
theorem cv_set4 (c:Ch) (v1 v2 x:Value):(cvals c v1 v2).setIfInBounds 4 x=cvals c x v2:=rfl
theorem cv_set5 (c:Ch) (v1 v2 x:Value):(cvals c v1 v2).setIfInBounds 5 x=cvals c v1 x:=rfl
def setBoxO (vs:Array Value):Obj→Obj
  | .cells _ t fr=>.cells vs t fr
  | o=>o
def setCellO (i:Nat) (v:Value):Obj→Obj
  | .cells c t fr=>.cells (c.setIfInBounds i v) t fr
  | o=>o
/-- Block b is written whole. -/
def setBox (w:World) (b:Nat) (vs:Array Value):World:={ w with heap:=w.heap.modify b (setBoxO vs) }
/-- What lies in block b. -/
def hp (w:World) (b:Nat):Option Obj:=w.heap[b]?
def okO (n:Nat):Option Obj→Bool
  | some (.cells c _ fr)=>c.size == n && (fr.1 == 0 && fr.2 == 0)
  | _=>false
def cellsO:Option Obj→Array Value
  | some (.cells c _ _)=>c
  | _=>#[]
theorem setBoxO_cells (vs c:Array Value) (t:TypeId):setBoxO vs (.cells c t)=.cells vs t:=rfl
theorem setCellO_cells (i:Nat) (v:Value) (c:Array Value) (t:TypeId):setCellO i v (.cells c t)=.cells (c.setIfInBounds i v) t:=rfl
theorem okO_cells (n:Nat) (c:Array Value) (t:TypeId):okO n (some (.cells c t))=(c.size == n):=by simp [okO]
theorem cellsO_cells (c:Array Value) (t:TypeId):cellsO (some (.cells c t))=c:=rfl
theorem okO_elim {n:Nat} {o:Option Obj} (h:okO n o=true):∃ c t,o=some (.cells c t)∧c.size=n:=by
  unfold okO at h
  split at h
  · rename_i c t fr
    obtain ⟨f1,f2⟩:=fr
    simp at h
    obtain ⟨h1,rfl,rfl⟩:=h
    exact ⟨c,t,rfl,h1⟩
  · cases h
theorem lt_2 (n:Nat):n<n+1+1:=by omega
theorem lt_3 (n:Nat):n<n+1+1+1:=by omega
theorem lt_4 (n:Nat):n<n+1+1+1+1:=by omega
theorem lt_5 (n:Nat):n<n+1+1+1+1+1:=by omega
variable {w W:World} {b b' n i:Nat} {vs us:Array Value} {v:Value}
theorem bx_size:(setBox w b vs).heap.size=w.heap.size:=by simp [setBox]
theorem bx_heap_at:hp (setBox w b vs) b=(hp w b).map (setBoxO vs):=by simp [hp,setBox,Array.getElem?_modify]
theorem bx_heap_ne (h:b'≠b):(setBox w b vs).heap[b']?=w.heap[b']?:=by simp [setBox,Array.getElem?_modify,Ne.symm h]
theorem bx_heap_lt (h:b'<b):hp (setBox w b vs) b'=hp w b':=bx_heap_ne (by omega)
theorem bx_heap_gt (h:b<b'):hp (setBox w b vs) b'=hp w b':=bx_heap_ne (by omega)
theorem bx_cell_at (h:okO vs.size (hp w b)=true):(setBox w b vs).cell? ⟨b,i,none⟩=vs[i]?:=by
  obtain ⟨c,t,e,_⟩:=okO_elim h
  unfold hp at e
  simp [World.cell?,setBox,Array.getElem?_modify,e,setBoxO]
theorem bx_cell_ne (h:b'≠b):(setBox w b vs).cell? ⟨b',i,none⟩=w.cell? ⟨b',i,none⟩:=World.cell?_of_block (bx_heap_ne h)
theorem bx_cell_lt (h:b'<b):(setBox w b vs).cell? ⟨b',i,none⟩=w.cell? ⟨b',i,none⟩:=bx_cell_ne (by omega)
theorem bx_cell_gt (h:b<b'):(setBox w b vs).cell? ⟨b',i,none⟩=w.cell? ⟨b',i,none⟩:=bx_cell_ne (by omega)
theorem bx_frozen:(setBox w b vs).frozen? ⟨b',i,none⟩=w.frozen? ⟨b',i,none⟩:=by
  simp only [World.frozen?,setBox,Array.getElem?_modify]
  by_cases e:b=b'
  · subst e
    simp only [if_true]
    cases w.heap[b]? with
    | none=>rfl
    | some o=>cases o <;> rfl
  · simp [e]
theorem bx_alloc_at {c:Array Value} {t:TypeId} (hn:n=w.heap.size):setBox (w.alloc (.cells c t)) n vs=w.alloc (.cells vs t):=by
  subst hn
  unfold setBox World.alloc
  congr 1
  apply Array.ext_getElem?
  intro k
  simp only [Array.getElem?_modify,Array.getElem?_push]
  by_cases hk:k=w.heap.size
  · subst hk;simp [setBoxO]
  · simp [hk,Ne.symm hk]
theorem bx_alloc_past {o:Obj} (hn:n<w.heap.size):setBox (w.alloc o) n vs=(setBox w n vs).alloc o:=by
  unfold setBox World.alloc
  congr 1
  apply Array.ext_getElem?
  intro k
  simp only [Array.getElem?_modify,Array.getElem?_push,Array.size_modify]
  by_cases hk:k=w.heap.size
  · subst hk;simp [Nat.ne_of_lt hn]
  · simp [hk]
theorem bx_twice:setBox (setBox w b vs) b us=setBox w b us:=by
  unfold setBox
  congr 1
  apply Array.ext_getElem?
  intro k
  simp only [Array.getElem?_modify]
  by_cases e:b=k
  · subst e
    simp only [if_true]
    cases w.heap[b]? with
    | none=>rfl
    | some o=>cases o <;> rfl
  · simp [e]
theorem bx_setCell:(setBox w b vs).setCell ⟨b,i,none⟩ v=setBox w b (vs.setIfInBounds i v):=by
  unfold setBox World.setCell
  congr 1
  apply Array.ext_getElem?
  intro k
  simp only [Array.getElem?_modify]
  by_cases e:b=k
  · subst e
    simp only [if_true]
    cases w.heap[b]? with
    | none=>rfl
    | some o=>cases o <;> rfl
  · simp [e]
theorem bx_drew:setBox w.drew b vs=(setBox w b vs).drew:=rfl
theorem hp_drew:hp w.drew b=hp w b:=rfl
theorem hp_alloc_at {o:Obj} (hn:n=w.heap.size):hp (w.alloc o) n=some o:=by subst hn;exact heap_alloc_new w o
theorem hp_alloc_past {o:Obj} (hn:n<w.heap.size):hp (w.alloc o) n=hp w n:=Below.heap_alloc w o n hn
theorem hp_set_at:hp (w.setCell ⟨b,i,none⟩ v) b=(hp w b).map (setCellO i v):=by
  simp only [hp,World.setCell,Array.getElem?_modify]
  cases w.heap[b]? with
  | none=>simp
  | some o=>cases o <;> simp [setCellO]
theorem hp_set_lt (h:b'<b):hp (w.setCell ⟨b,i,none⟩ v) b'=hp w b':=Below.heap_setCell w _ v b' (by simp;omega)
theorem hp_set_gt (h:b<b'):hp (w.setCell ⟨b,i,none⟩ v) b'=hp w b':=Below.heap_setCell w _ v b' (by simp;omega)
theorem grHp {r:Option Nat} (h:w.grownBy W r) (hb:b<w.heap.size) (hn:some b≠r):hp W b=hp w b:=h.block b hb hn
theorem bO {w:World} {b:Nat} {cs:Array Value} {t:TypeId} (h:hp w b=some (.cells cs t)):(∀ o,w.cell? ⟨b,o,none⟩=cs[o]?)∧(∀ o,w.frozen? ⟨b,o,none⟩=false)∧b<w.heap.size :=
  ⟨fun o=>cell_of_row w b o cs t _ h,fun o=>by have h2:w.heap[b]?=some (.cells cs t):=h;simp [World.frozen?,h2],(Array.getElem?_eq_some_iff.1 h).1⟩
theorem hpB (h:Below n w W) (hb:b<n):hp W b=hp w b:=h.block b hb
theorem hQ {n:Nat} {w W:World} (h:Below n w W) {b:Nat} (hb:b<n:=by ((try simp) <;> omega)):hp W b=hp w b:=hpB h hb
theorem q4 {n:Nat} {w W:World} (h:Below n w W) {b:Nat} (hb:b+1+1+1<n:=by ((try simp) <;> omega)):hp W (b+1+1+1)=hp w (b+1+1+1)∧hp W (b+1+1)=hp w (b+1+1)∧hp W (b+1)=hp w (b+1)∧hp W b=hp w b:=⟨hpB h (by omega),hpB h (by omega),hpB h (by omega),hpB h (by omega)⟩
theorem bBx {lo:Nat} (h:Below lo w W) (hb:lo≤b):Below lo w (setBox W b vs) :=
  ⟨h.os,h.tape,h.output,by rw [bx_size];exact h.size,fun k hk=>(bx_heap_ne (by omega)).trans (h.block k hk)⟩
theorem gBx {g:Nat} (h:Gr g w W) (hb:b=g∨w.heap.size≤b):Gr g w (setBox W b vs) :=
  ⟨h.os,h.tape,h.output,by rw [bx_size];exact h.size,fun k hk hn=>(bx_heap_ne (by rcases hb with hb|hb;exact fun e=>hn (by rw [e,hb]);omega)).trans (h.block k hk hn)⟩
theorem own_box {lo:Nat} {e:TypeId} {k m:Nat} {x:Value} {xs:List Value} (h:w.ownsRow lo e k x m xs) (hp:x.ownBlock≠some b):(setBox w b vs).ownsRow lo e k x m xs :=
  h.kept (row:=some b) ⟨rfl,rfl,rfl,by rw [bx_size];exact Nat.le_refl _,fun i _ hn=>bx_heap_ne (fun e=>hn (by rw [e]))⟩ (.inr hp)
variable {P:Program} {T:TypeId}
theorem load_box (hA:∀ w,(isAgg T).run P w=.ok true w) (hS:∀ w,(sizeOf T).run P w=.ok n w) (h:okO n (hp w b)=true) :
    (loadVar T ⟨b,0,none⟩).run P w=.ok (.agg (cellsO (hp w b))) w:=by
  unfold hp at *
  obtain ⟨c,t,e,hc⟩:=okO_elim h
  have h1:(loadCells ⟨b,0,none⟩ c.toList.length).run P w=.ok c.toList.toArray w:=run_loadCells_list w ⟨b,0,none⟩ c.toList (fun j v hj=>by
    have e2:(⟨b,0,none⟩:Addr).add j=⟨b,j,none⟩:=by by_cases h0:j=0 <;> simp [Addr.add,h0]
    rw [e2]
    simp only [World.cell?,e]
    simpa using hj)
  simp only [Array.length_toList,hc] at h1
  rw [e,cellsO_cells]
  simp only [loadVar,Sem.run_bind,hA,hS,Result.andThen_ok,if_true,h1,Sem.run_pure]
theorem setCells_heap (b:Nat):∀ (l:List Value) (o:Nat) (w:World),w.setCells b o l={ w with heap:=w.heap.modify b (fun x=>match x with|.cells c t fr=>.cells ((l.zipIdx o).foldl (fun c p=>c.setIfInBounds p.2 p.1) c) t fr|x=>x) }
  | [],o,w=>by
    unfold World.setCells
    have e:w.heap.modify b (fun x=>match x with|.cells c t fr=>.cells ((([]:List Value).zipIdx o).foldl (fun c p=>c.setIfInBounds p.2 p.1) c) t fr|x=>x)=w.heap:=by
      apply Array.ext_getElem?
      intro k
      simp only [Array.getElem?_modify]
      by_cases e:b=k
      · subst e
        simp only [if_true]
        cases w.heap[b]? with
        | none=>rfl
        | some x=>cases x <;> rfl
      · simp [e]
    rw [e]
  | v :: l,o,w=>by
    unfold World.setCells
    rw [setCells_heap b l (o+1)]
    simp only [World.setCell]
    congr 1
    apply Array.ext_getElem?
    intro k
    simp only [Array.getElem?_modify]
    by_cases e:b=k
    · subst e
      simp only [if_true]
      cases w.heap[b]? with
      | none=>rfl
      | some x=>cases x <;> simp [List.zipIdx_cons]
    · simp [e]
theorem fold_get:∀ (l:List Value) (o:Nat) (c:Array Value) (k:Nat),o+l.length≤c.size→((l.zipIdx o).foldl (fun c p=>c.setIfInBounds p.2 p.1) c)[k]?=if o≤k∧k<o+l.length then l[k - o]? else c[k]?
  | [],o,c,k,_=>by
    have:¬ (o≤k∧k<o+([]:List Value).length):=by simp
    rw [if_neg this];rfl
  | v :: l,o,c,k,h=>by
    simp only [List.zipIdx_cons,List.foldl_cons,List.length_cons] at *
    rw [fold_get l (o+1) _ k (by rw [Array.size_setIfInBounds];omega)]
    by_cases e:k=o
    · subst e
      rw [if_neg (by omega),if_pos (by omega),Array.getElem?_setIfInBounds,if_pos rfl,if_pos (by omega)];simp
    · by_cases e2:o+1≤k∧k<o+1+l.length
      · rw [if_pos e2,if_pos (by omega)]
        obtain ⟨m,rfl⟩:∃ m,k=o+1+m:=⟨k - (o+1),by omega⟩
        rw [show o+1+m - (o+1)=m by omega,show o+1+m - o=m+1 by omega];rfl
      · rw [if_neg e2,if_neg (by omega),Array.getElem?_setIfInBounds,if_neg (fun h=>e h.symm)]
theorem fold_all (vs c:Array Value) (h:c.size=vs.size):((vs.toList.zipIdx 0).foldl (fun c p=>c.setIfInBounds p.2 p.1) c)=vs:=by
  apply Array.ext_getElem?
  intro k
  rw [fold_get _ _ _ _ (by simp;omega)]
  by_cases e:k<vs.size
  · rw [if_pos (by simp;omega)];simp
  · rw [if_neg (by simp;omega),Array.getElem?_eq_none (by omega),Array.getElem?_eq_none (by omega)]
theorem store_cells (h:okO n (hp w b)=true) (hv:vs.size=n) (h1:∀ v ∈ vs.toList,v.oneCell'=true) :
    (storeCells ⟨b,0,none⟩ vs.toList).run P w=.ok () (setBox w b vs):=by
  unfold hp at h
  obtain ⟨c,t,e,hc⟩:=okO_elim h
  have h2:=run_storeCells_cells (P:=P) b 0 vs.toList 0 w (fun j hj=>by
      have:j<c.size:=by rw [hc,← hv];simpa using hj
      simp [World.cell?,e,this]) (fun j hj=>by simp [World.frozen?,e]) h1
  have h3:w.setCells b (0+0) vs.toList=setBox w b vs:=by
    rw [setCells_heap]
    unfold setBox
    congr 1
    apply Array.ext_getElem?
    intro k
    simp only [Array.getElem?_modify]
    by_cases ek:b=k
    · subst ek
      simp only [if_true,e,Option.map_some,setBoxO]
      rw [fold_all vs c (by omega)]
    · simp [ek]
  rw [h3] at h2
  exact h2
theorem store_box (hS:∀ w,(sizeOf T).run P w=.ok n w) (h:okO n (hp w b)=true) (hv:vs.size=n) (h1:∀ v ∈ vs.toList,v.oneCell'=true) :
    (storeVar T ⟨b,0,none⟩ (.agg vs)).run P w=.ok () (setBox w b vs):=by
  have h2:=store_cells (P:=P) h hv h1
  simp only [storeVar,Sem.run_bind,hS,Result.andThen_ok,Value.cells,hv,ne_eq,not_true_eq_false,if_false]
  simpa using h2
/- Results that lie in memory. -/
variable {fn:Func} {p q u:Tmp} {S:TypeId} {tmps:Array Value} {a a':Addr} {x y:Value}
theorem res_c (h:fn.results=#[.cell p T]) (hp:tmps.getD p undef=.pointer (some a)) (hl:(loadVar T a).run P w=.ok x w):(results fn tmps).run P w=.ok x w:=by
  simp only [results,h]
  simp [Sem.run_bind,Result.andThen,asAddr] at *
  simp [hp,hl]
theorem res_ct (h:fn.results=#[.cell p T,.tmp u]) (hp:tmps.getD p undef=.pointer (some a)) (hl:(loadVar T a).run P w=.ok x w):(results fn tmps).run P w=.ok (.tuple #[x,tmps.getD u undef]) w:=by
  simp only [results,h]
  simp [Sem.run_bind,Result.andThen,asAddr] at *
  simp [hp,hl]
end Go.Proofs.Ytgpdocmclkpknaa
