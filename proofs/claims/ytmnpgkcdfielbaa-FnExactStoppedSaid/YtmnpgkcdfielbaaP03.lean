/-
  The contracts of the laws' helpers on channels; lists of at most 1048576 elements.
  Lists of a call's own that lie from the start of a block on; no condition.
  The laws' helpers that write numbers into a list of the call's own, and that look for them; lists of at most 1048576 elements.
-/
import Derived.Test.YtmnpgkcdfielbaaP02
import Derived.Test.YtmnpgkcdfielbaaP01
set_option linter.unusedSimpArgs false
set_option linter.unusedVariables false
namespace Go.Proofs.Ytmnpgkcdfielbaa
open Go.RowKit
set_option maxRecDepth 100000 in
set_option maxHeartbeats 1000000 in
theorem toChan_any (c:Ch) (a b:Option Addr) (p q:Nat) (w:World) (h1:Seg w w.heap.size a c.cells.length 3 (cellF c.cells)) (h2:Seg w w.heap.size b c.words.length 1 (intF c.words)) (m1:c.cells.length≤1048576) (m2:c.words.length≤1048576) :
    Calls Try.prog 18 #[.agg #[.int .i64 c.cap,.int .i64 c.sent,.int .i64 c.got,.int .i64 c.fin,.slice a c.cells.length p,.slice b c.words.length q]] w fun r w' =>
      (∃ g1 g2,r=.returned (.agg #[.int .i64 c.cap,.int .i64 c.sent,.int .i64 c.got,.int .i64 c.fin,.slice (some ⟨g1,0,none⟩) c.cells.length c.cells.length,.slice (some ⟨g2,0,none⟩) c.words.length c.words.length])∧w.heap.size≤g1∧w.heap.size≤g2∧Row w' g1 98 c.cells.length 3 (cellF c.cells)∧Row w' g2 2 c.words.length 1 (intF c.words))∧Below w.heap.size w w':=by
  obtain ⟨cap,sent,got,fin,cells,words⟩:=c
  simp only at *
  have H1:=Lib.hid h1
  have H2:=Lib.hid h2
  clear h1 h2
  go_enter Try.func18,Try.ntmps18
  go_wp2_with fail
  refine (toCellS_any cells a p _ (((H1.out).below (by exact zB)).more (by simp;try omega)) m1).mono ?_
  rintro _ w1 ⟨rfl,hR1,hb1⟩
  have hB1:Below w.heap.size w w1:=bT (by exact zB) hb1
  have hs1:=hb1.size
  simp at hs1 hR1
  have:=fun o=>hb1.cell (p:=⟨w.heap.size,o,none⟩) (by simp;try omega)
  have:=fun o=>hb1.frozen (p:=⟨w.heap.size,o,none⟩) (by simp;try omega)
  have:=fun o=>hb1.cell (p:=⟨w.heap.size+1,o,none⟩) (by simp;try omega)
  have:=fun o=>hb1.frozen (p:=⟨w.heap.size+1,o,none⟩) (by simp;try omega)
  have:=fun o=>hb1.cell (p:=⟨w.heap.size+1+1,o,none⟩) (by simp;try omega)
  have:=fun o=>hb1.frozen (p:=⟨w.heap.size+1+1,o,none⟩) (by simp;try omega)
  have:w.heap.size<w.heap.size+1+1:=by omega
  have:w.heap.size≤w.heap.size+1:=by omega
  have:w.heap.size<w1.heap.size:=by omega
  have hl1:=hR1.lt
  go_wp2_with fail
  refine (toInt64S_any words b q _ (((H2.out).below (by exact zB)).more (by simp [World.setCell];try omega)) m2).mono ?_
  rintro _ w2 ⟨rfl,hR2,hb2⟩
  have hB2:Below w.heap.size w w2:=bT (by exact zB) hb2
  have hR3:=(hR1.setOther (a:=⟨w.heap.size+1+1,4,none⟩) (by simp;try omega) (.slice (some ⟨w.heap.size+1+1+1,0,none⟩) cells.length cells.length)).below hb2 (by simp [World.setCell];try omega)
  have hs2:=hb2.size
  simp [World.setCell] at hs2 hR2
  have:=fun o=>hb2.cell (p:=⟨w.heap.size,o,none⟩) (by simp [World.setCell];try omega)
  have:=fun o=>hb2.frozen (p:=⟨w.heap.size,o,none⟩) (by simp [World.setCell];try omega)
  have:=fun o=>hb2.cell (p:=⟨w.heap.size+1,o,none⟩) (by simp [World.setCell];try omega)
  have:=fun o=>hb2.frozen (p:=⟨w.heap.size+1,o,none⟩) (by simp [World.setCell];try omega)
  have:=fun o=>hb2.cell (p:=⟨w.heap.size+1+1,o,none⟩) (by simp [World.setCell];try omega)
  have:=fun o=>hb2.frozen (p:=⟨w.heap.size+1+1,o,none⟩) (by simp [World.setCell];try omega)
  have:w.heap.size+1+1+1≤w1.heap.size:=by omega
  clear hb1 hb2 hR1
  go_wp2_with fail
  refine bodyPost_ret (v:=.agg #[.int .i64 cap,.int .i64 sent,.int .i64 got,.int .i64 fin,.slice (some ⟨w.heap.size+1+1+1,0,none⟩) cells.length cells.length,.slice (some ⟨w1.heap.size,0,none⟩) words.length words.length]) (by simp [results,Try.results18,go_sem, *]) rfl ⟨⟨w.heap.size+1+1+1,w1.heap.size,rfl,by omega,by omega,?_,?_⟩,?_⟩
  · repeat (first|with_reducible exact hR3|((with_reducible refine Row.setOther ?_ ?_ _);rotate_left;(focus ((try simp);(try omega)))))
  · repeat (first|with_reducible exact hR2|((with_reducible refine Row.setOther ?_ ?_ _);rotate_left;(focus ((try simp);(try omega)))))
  · exact zB
set_option maxRecDepth 100000 in
set_option maxHeartbeats 1000000 in
theorem eqChan_any (c:Ch) (a b a' b':Option Addr) (p q p' q':Nat) (w:World) (h1:Seg w w.heap.size a c.cells.length 3 (cellF c.cells)) (h2:Seg w w.heap.size b c.words.length 1 (intF c.words)) (h3:Seg w w.heap.size a' c.cells.length 3 (cellF c.cells)) (h4:Seg w w.heap.size b' c.words.length 1 (intF c.words)) (m1:c.cells.length≤1048576) (m2:c.words.length≤1048576) :
    Calls Try.prog 25 #[.agg #[.int .i64 c.cap,.int .i64 c.sent,.int .i64 c.got,.int .i64 c.fin,.slice a c.cells.length p,.slice b c.words.length q],.agg #[.int .i64 c.cap,.int .i64 c.sent,.int .i64 c.got,.int .i64 c.fin,.slice a' c.cells.length p',.slice b' c.words.length q']] w fun r w'=>r=.returned (.bool true)∧Below w.heap.size w w':=by
  obtain ⟨cap,sent,got,fin,cells,words⟩:=c
  simp only at *
  have H1:=Lib.hid h1
  have H2:=Lib.hid h2
  have H3:=Lib.hid h3
  have H4:=Lib.hid h4
  clear h1 h2 h3 h4
  go_enter Try.func25,Try.ntmps25
  go_wp2_with fail
  refine (eqCellS_any cells a a' p p' _ (((H1.out).below (by exact zB)).more (by simp;try omega)) (((H3.out).below (by exact zB)).more (by simp;try omega)) m1).mono ?_
  rintro _ w1 ⟨rfl,hb1⟩
  have hB1:Below w.heap.size w w1:=bT (by exact zB) hb1
  have hs1:=hb1.size
  simp at hs1
  have:=fun o=>hb1.cell (p:=⟨w.heap.size,o,none⟩) (by simp;try omega)
  have:=fun o=>hb1.cell (p:=⟨w.heap.size+1,o,none⟩) (by simp;try omega)
  go_wp2_with fail
  refine (eqInt64S_any words b b' q q' _ (((H2.out).below hB1).more (by omega)) (((H4.out).below hB1).more (by omega)) m2).mono ?_
  rintro _ w2 ⟨rfl,hb2⟩
  have hB2:Below w.heap.size w w2:=bT hB1 hb2
  go_wp2
  go_ret
  exact ⟨rfl,hB2⟩
/-- What is left of a bound behind a list of n elements; -1 where there is too little. -/
def leftN (left:Int) (n:Nat):Int:=if left<n then -1 else left - n
def leftC (left:Int) (c:Ch):Int:=if leftN left c.cells.length<0 then -1 else leftN (leftN left c.cells.length) c.words.length
theorem leftN_no {left:Int} {n:Nat} (h:left<n):leftN left n=-1:=if_pos h
theorem leftN_yes {left:Int} {n:Nat} (h:¬ left<n):leftN left n=left - n:=if_neg h
set_option maxRecDepth 100000 in
set_option maxHeartbeats 1000000 in
theorem szChan_any (c:Ch) (a b:Option Addr) (p q:Nat) (left:Int) (w:World) (h0:0≤left) (h1:left≤1048576) (m1:c.cells.length≤maxLen) (m2:c.words.length≤maxLen) :
    Calls Try.prog 11 #[.agg #[.int .i64 c.cap,.int .i64 c.sent,.int .i64 c.got,.int .i64 c.fin,.slice a c.cells.length p,.slice b c.words.length q],.int .i64 left] w fun r w'=>r=.returned (.int .i64 (leftC left c))∧Below w.heap.size w w':=by
  have M1:=Lib.hid m1
  have M2:=Lib.hid m2
  clear m1 m2
  by_cases hc:left<c.cells.length
  · have HV:Hid (-1=leftC left c):=by unfold leftC;rw [leftN_no hc];rfl
    have HQ:Hid ((if left<(c.cells.length:Int) then (-1:Int) else left - c.cells.length)=-1):=if_pos hc
    clear hc
    go_enter Try.func11,Try.ntmps11
    go_wp2_with fail
    refine (szCellS_any _ _ _ _ _ h0 h1 M1.out).mono ?_
    rintro _ _ ⟨rfl,rfl⟩
    rw [HQ.out]
    go_wp2
    go_ret
    exact ⟨ret_i64 HV.out,by exact zB⟩
  · obtain ⟨l2,e2⟩:∃ l2,l2=left - c.cells.length:=⟨_,rfl⟩
    have HQ:Hid ((if left<(c.cells.length:Int) then (-1:Int) else left - c.cells.length)=l2):=by rw [e2];exact if_neg hc
    have hl0:0≤l2:=by omega
    have hl1:l2≤1048576:=by omega
    have hl2:¬ l2<0:=by omega
    have HL:Hid (leftC left c=leftN l2 c.words.length):=by unfold leftC;rw [leftN_yes hc,← e2,if_neg hl2];rfl
    clear hc e2
    by_cases hw:l2<c.words.length
    · have HV:Hid (-1=leftC left c):=by rw [HL.out,leftN_no hw];rfl
      have HQ2:Hid ((if l2<(c.words.length:Int) then (-1:Int) else l2 - c.words.length)=-1):=if_pos hw
      clear hw
      go_enter Try.func11,Try.ntmps11
      go_wp2_with fail
      refine (szCellS_any _ _ _ _ _ h0 h1 M1.out).mono ?_
      rintro _ _ ⟨rfl,rfl⟩
      rw [HQ.out]
      go_wp2_with fail
      refine (szInt64S_any _ _ _ _ _ hl0 hl1 M2.out).mono ?_
      rintro _ _ ⟨rfl,rfl⟩
      rw [HQ2.out]
      go_wp2
      go_ret
      exact ⟨ret_i64 HV.out,by exact zB⟩
    · obtain ⟨l3,e3⟩:∃ l3,l3=l2 - c.words.length:=⟨_,rfl⟩
      have HV:Hid (l3=leftC left c):=by rw [HL.out,leftN_yes hw,e3];rfl
      have HQ2:Hid ((if l2<(c.words.length:Int) then (-1:Int) else l2 - c.words.length)=l3):=by rw [e3];exact if_neg hw
      have hl3:¬ l3<0:=by omega
      clear hw e3
      go_enter Try.func11,Try.ntmps11
      go_wp2_with fail
      refine (szCellS_any _ _ _ _ _ h0 h1 M1.out).mono ?_
      rintro _ _ ⟨rfl,rfl⟩
      rw [HQ.out]
      go_wp2_with fail
      refine (szInt64S_any _ _ _ _ _ hl0 hl1 M2.out).mono ?_
      rintro _ _ ⟨rfl,rfl⟩
      rw [HQ2.out]
      go_wp2
      go_ret
      exact ⟨ret_i64 HV.out,by exact zB⟩
end Go.Proofs.Ytmnpgkcdfielbaa
set_option linter.unusedSimpArgs false
set_option linter.unusedVariables false
namespace Go.Proofs.Ytmnpgkcdfielbaa
open Go.RowKit
/-- Block b begins with n elements of k cells each, none frozen; f says what each cell holds. -/
def Lie (w:World) (b n k:Nat) (f:Nat→Nat→Value):Prop :=
  ∃ (c:Array Value) (t:TypeId),w.heap[b]?=some (.cells c t (0,0))∧n*k≤c.size∧∀ i j,i<n→j<k→c[i*k+j]?=some (f i j)
namespace Lie
variable {w w':World} {b n k:Nat} {f g:Nat→Nat→Value}
theorem cell (h:Lie w b n k f) {i j:Nat} (hi:i<n) (hj:j<k):w.cell? ⟨b,i*k+j,none⟩=some (f i j):=by
  obtain ⟨c,t,hb,_,hc⟩:=h
  simp [World.cell?,hb,hc i j hi hj]
theorem frozen (h:Lie w b n k f) (o:Nat):w.frozen? ⟨b,o,none⟩=false:=by
  obtain ⟨c,t,hb,_,_⟩:=h
  simp [World.frozen?,hb]
theorem lt (h:Lie w b n k f):b<w.heap.size:=by
  obtain ⟨c,t,hb,_,_⟩:=h
  exact (Array.getElem?_eq_some_iff.1 hb).1
theorem congr (h:Lie w b n k f) (e:∀ i j,i<n→j<k→f i j=g i j):Lie w b n k g:=by
  obtain ⟨c,t,hb,hn,hc⟩:=h
  exact ⟨c,t,hb,hn,fun i j hi hj=>by rw [hc i j hi hj,e i j hi hj]⟩
theorem of_block (h:Lie w b n k f) (e:w'.heap[b]?=w.heap[b]?):Lie w' b n k f:=by
  obtain ⟨c,t,hb,hn,hc⟩:=h
  exact ⟨c,t,e.trans hb,hn,hc⟩
theorem below {B:Nat} (h:Lie w b n k f) (hb:Below B w w') (hB:b<B):Lie w' b n k f:=h.of_block (hb.block b hB)
theorem set (h:Lie w b n k f) {i j:Nat} (hi:i<n) (hj:j<k) (v:Value):Lie (w.setCell ⟨b,i*k+j,none⟩ v) b n k (fun i' j'=>if i'=i∧j'=j then v else f i' j'):=by
  obtain ⟨c,t,hb,hn,hc⟩:=h
  refine ⟨c.setIfInBounds (i*k+j) v,t,?_,by simpa using hn,fun i' j' hi' hj'=>?_⟩
  · simp [World.setCell,Array.getElem?_modify,hb]
  · rw [Array.getElem?_setIfInBounds]
    by_cases e:i*k+j=i'*k+j'
    · obtain ⟨rfl,rfl⟩:=Row.idx hj hj' e
      have hlt:i*k+j<c.size:=(Array.getElem?_eq_some_iff.1 (hc i j hi hj)).1
      simp [hlt]
    · rw [if_neg e]
      show c[i'*k+j']?=some (if i'=i∧j'=j then v else f i' j')
      rw [if_neg (fun h=>e (by rw [h.1,h.2]))]
      exact hc i' j' hi' hj'
theorem set3 (h:Lie w b n 3 f) {i:Nat} (hi:i<n) (v:Nat→Value) :
    Lie (((w.setCell ⟨b,i*3,none⟩ (v 0)).setCell ⟨b,i*3+1,none⟩ (v 1)).setCell ⟨b,i*3+2,none⟩ (v 2)) b n 3 (fun i' j'=>if i'=i then v j' else f i' j'):=by
  refine (((h.set hi (j:=0) (by omega) (v 0)).set hi (j:=1) (by omega) (v 1)).set hi (j:=2) (by omega) (v 2)).congr fun i' j' _ hj=>?_
  have:j'=0∨j'=1∨j'=2:=by omega
  rcases this with rfl|rfl|rfl <;> by_cases e:i'=i <;> simp [e]
theorem set1 (h:Lie w b n 1 f) {i:Nat} (hi:i<n) (v:Value) :
    Lie (w.setCell ⟨b,i,none⟩ v) b n 1 (fun i' j'=>if i'=i then v else f i' j'):=by
  have h1:=h.set hi (j:=0) (by omega) v
  simp only [Nat.mul_one,Nat.add_zero] at h1
  refine h1.congr fun i' j' _ hj=>?_
  have:j'=0:=by omega
  subst this
  by_cases e:i'=i <;> simp [e]
theorem seg (h:Lie w b n k f):Seg w w.heap.size (some ⟨b,0,none⟩) n k f:=.inr ⟨b,0,rfl,h.lt,fun i j hi hj=>by simpa using h.cell hi hj⟩
end Lie
theorem Row.lie {w:World} {b:Nat} {t:TypeId} {n k:Nat} {f:Nat→Nat→Value} (h:Row w b t n k f):Lie w b n k f:=by
  obtain ⟨c,hb,hn,hc⟩:=h
  exact ⟨c,t,hb,Nat.le_of_eq hn.symm,hc⟩
/-- A list of n elements that is nothing, or lies from the start of a block on that is at or above lo. -/
def New (w:World) (lo:Nat) (v:Value) (n k:Nat) (f:Nat→Nat→Value):Prop :=
  (v=.slice none 0 0∧n=0)∨∃ g cap,v=.slice (some ⟨g,0,none⟩) n cap∧lo≤g∧Lie w g n k f
abbrev NewI (w:World) (lo:Nat) (v:Value) (l:List Int):Prop:=New w lo v l.length 1 (intF l)
abbrev NewC (w:World) (lo:Nat) (v:Value) (cs:List C3):Prop:=New w lo v cs.length 3 (cellF cs)
namespace New
variable {w w1:World} {lo n k:Nat} {v:Value} {f:Nat→Nat→Value}
theorem below (h:New w lo v n k f) (hb:Below w.heap.size w w1):New w1 lo v n k f:=by
  rcases h with h|⟨g,cap,h1,h2,h3⟩
  · exact .inl h
  · exact .inr ⟨g,cap,h1,h2,h3.below hb h3.lt⟩
theorem more {lo':Nat} (h:New w lo v n k f) (hl:lo'≤lo):New w lo' v n k f:=by
  rcases h with h|⟨g,cap,h1,h2,h3⟩
  · exact .inl h
  · exact .inr ⟨g,cap,h1,Nat.le_trans hl h2,h3⟩
theorem kept {row:Option Nat} (h:New w lo v n k f) (hg:w.grownBy w1 row) (hn:row=none∨v.ownBlock≠row):New w1 lo v n k f:=by
  rcases h with h|⟨g,cap,h1,h2,h3⟩
  · exact .inl h
  · refine .inr ⟨g,cap,h1,h2,h3.of_block (hg.block g h3.lt fun e=>?_)⟩
    subst h1
    rcases hn with rfl|hn
    · cases e
    · exact hn (by rw [← e];rfl)
theorem seg (h:New w lo v n k f):∃ a cap,v=.slice a n cap∧Seg w w.heap.size a n k f:=by
  rcases h with ⟨rfl,rfl⟩|⟨g,cap,rfl,_,h3⟩
  · exact ⟨none,0,rfl,.inl rfl⟩
  · exact ⟨_,cap,rfl,h3.seg⟩
theorem lt (h:New w lo v n k f) {b:Nat} (hb:v.ownBlock=some b):lo≤b∧b<w.heap.size:=by
  rcases h with ⟨rfl,_⟩|⟨g,cap,rfl,h2,h3⟩
  · cases hb
  · simp [Value.ownBlock] at hb
    subst hb
    exact ⟨h2,h3.lt⟩
end New
theorem OCells.new {w:World} {lo:Nat} {v:Value} {cs:List C3} (h:OCells w lo v cs):NewC w lo v cs:=by
  rcases h.2 with ⟨h1,h0⟩|⟨g,cap,cur,rfl,hl,hg,h4,h5,h6,h7⟩
  · exact .inl ⟨h1,h0⟩
  · refine .inr ⟨g,cap,rfl,hl,cur,_,hg,?_,fun i j hi hj=>?_⟩
    · have e:=congrArg List.length h7
      rw [List.length_take,flatC_len] at e
      simp at e;omega
    · have:=h.cells (g:=g) rfl (i*3+j) _ (flatC_get cs i j hi hj)
      have e2:(⟨g,0,none⟩:Addr).add (i*3+j)=⟨g,i*3+j,none⟩:=by generalize i*3+j=m;by_cases e:m=0 <;> simp [Addr.add,e]
      rw [e2] at this
      simpa [World.cell?,hg] using this
theorem OInts.new {w:World} {lo:Nat} {v:Value} {l:List Int} (h:OInts w lo v l):NewI w lo v l:=by
  rcases h.2 with ⟨h1,h0⟩|⟨g,cap,cur,rfl,hl,hg,h4,h5,h6,h7⟩
  · exact .inl ⟨h1,h0⟩
  · refine .inr ⟨g,cap,rfl,hl,cur,_,hg,?_,fun i j hi hj=>?_⟩
    · have e:=congrArg List.length h7
      rw [List.length_take,ints_len] at e
      simp at e;omega
    · have hj0:j=0:=by omega
      subst hj0
      have:=h.cells (g:=g) rfl i (intF l i 0) (by simp [ints,intF,List.getD,hi])
      have e2:(⟨g,0,none⟩:Addr).add i=⟨g,i,none⟩:=by by_cases e:i=0 <;> simp [Addr.add,e]
      rw [e2] at this
      simpa [World.cell?,hg] using this
/-- Of what was there, the blocks a and b alone may have turned. -/
def Onl (a b:Option Nat) (w w':World):Prop :=
  w'.os=w.os∧w'.tape=w.tape∧w'.output=w.output∧w.heap.size≤w'.heap.size∧∀ i,i<w.heap.size→some i≠a→some i≠b→w'.heap[i]?=w.heap[i]?
theorem onlT {a b:Option Nat} {w W w1:World} (h:Onl a b w W) (k:Onl a b W w1):Onl a b w w1 :=
  ⟨k.1.trans h.1,k.2.1.trans h.2.1,k.2.2.1.trans h.2.2.1,Nat.le_trans h.2.2.2.1 k.2.2.2.1,fun i hi h1 h2=>(k.2.2.2.2 i (Nat.lt_of_lt_of_le hi h.2.2.2.1) h1 h2).trans (h.2.2.2.2 i hi h1 h2)⟩
theorem onl1 {a b:Option Nat} {w W:World} (h:w.grownBy W a):Onl a b w W:=⟨h.os,h.tape,h.output,h.size,fun i hi h1 _=>h.block i hi h1⟩
theorem onl2 {a b:Option Nat} {w W:World} (h:w.grownBy W b):Onl a b w W:=⟨h.os,h.tape,h.output,h.size,fun i hi _ h1=>h.block i hi h1⟩
theorem New.keptO {w w1:World} {lo n k:Nat} {v:Value} {f:Nat→Nat→Value} {a b:Option Nat} (h:New w lo v n k f) (ho:Onl a b w w1) (h1:∀ i,v.ownBlock=some i→a≠some i) (h2:∀ i,v.ownBlock=some i→b≠some i):New w1 lo v n k f:=by
  rcases h with h|⟨g,cap,e,h3,h4⟩
  · exact .inl h
  · subst e
    exact .inr ⟨g,cap,rfl,h3,h4.of_block (ho.2.2.2.2 g h4.lt (fun e=>h1 g rfl e.symm) (fun e=>h2 g rfl e.symm))⟩
theorem grCell {r:Option Nat} {b:Nat} {w w1:World} (h:w.grownBy w1 r) (hb:b<w.heap.size) (hn:some b≠r) (o:Nat):w1.cell? ⟨b,o,none⟩=w.cell? ⟨b,o,none⟩:=World.cell?_of_block (h.block b hb hn)
theorem grA {w W:World} {r:Option Nat} (o:Obj) (h:(w.alloc o).grownBy W r):w.grownBy W r :=
  ⟨h.os,h.tape,h.output,Nat.le_trans (by simp) h.size,fun i hi hn=>(h.block i (by simp;omega) hn).trans (Below.heap_alloc w o i hi)⟩
theorem grFroz {r:Option Nat} {b:Nat} {w w1:World} (h:w.grownBy w1 r) (hb:b<w.heap.size) (hn:some b≠r) (o:Nat):w1.frozen? ⟨b,o,none⟩=w.frozen? ⟨b,o,none⟩:=World.frozen?_of_block (h.block b hb hn)
end Go.Proofs.Ytmnpgkcdfielbaa
set_option linter.unusedSimpArgs false
set_option linter.unusedVariables false
namespace Go.Proofs.Ytmnpgkcdfielbaa
open Go.RowKit
/- The numbers that are written. -/
def marksI (k:Int) (n:Nat):List Int:=(List.range n).map fun (i:Nat)=>k+(i:Int)
def marksC (k:Int) (n:Nat):List C3:=(List.range n).map fun (i:Nat)=>⟨k+3*(i:Int),k+3*(i:Int)+1,k+3*(i:Int)+2⟩
theorem marksI_len (k:Int) (n:Nat):(marksI k n).length=n:=by simp [marksI]
theorem marksC_len (k:Int) (n:Nat):(marksC k n).length=n:=by simp [marksC]
theorem marksI_get {k:Int} {n i:Nat} (h:i<n):(marksI k n).getD i 0=k+(i:Int):=by simp [marksI,List.getD,h]
theorem marksC_get {k:Int} {n i:Nat} (h:i<n):(marksC k n).getD i ⟨0,0,0⟩=⟨k+3*(i:Int),k+3*(i:Int)+1,k+3*(i:Int)+2⟩:=by simp [marksC,List.getD,h]
def mkI (k:Int) (f:Nat→Nat→Value) (m i j:Nat):Value:=if i<m then .int .i64 (k+(i:Int)) else f i j
def mkC (k:Int) (f:Nat→Nat→Value) (m i j:Nat):Value:=if i<m then C3.val ⟨k+3*(i:Int),k+3*(i:Int)+1,k+3*(i:Int)+2⟩ j else f i j
theorem mkI_0 (k:Int) (f:Nat→Nat→Value):mkI k f 0=f:=by funext i j;simp [mkI]
theorem mkC_0 (k:Int) (f:Nat→Nat→Value):mkC k f 0=f:=by funext i j;simp [mkC]
theorem mkI_step {k x:Int} {f:Nat→Nat→Value} {m:Nat} (h:x=k+(m:Int)) (i j:Nat):(if i=m then Value.int .i64 x else mkI k f m i j)=mkI k f (m+1) i j:=by
  subst h
  unfold mkI
  by_cases e:i=m
  · subst e;rw [if_pos rfl,if_pos (by omega)]
  · rw [if_neg e]
    by_cases e2:i<m
    · rw [if_pos e2,if_pos (by omega)]
    · rw [if_neg e2,if_neg (by omega)]
theorem mkC_step {k:Int} {f:Nat→Nat→Value} {m:Nat} {c:C3} (h:c=⟨k+3*(m:Int),k+3*(m:Int)+1,k+3*(m:Int)+2⟩) (i j:Nat):(if i=m then c.val j else mkC k f m i j)=mkC k f (m+1) i j:=by
  subst h
  unfold mkC
  by_cases e:i=m
  · subst e;rw [if_pos rfl,if_pos (by omega)]
  · rw [if_neg e]
    by_cases e2:i<m
    · rw [if_pos e2,if_pos (by omega)]
    · rw [if_neg e2,if_neg (by omega)]
theorem mkI_end (k:Int) (f:Nat→Nat→Value) (n:Nat):∀ i j,i<n→j<1→mkI k f n i j=intF (marksI k n) i j:=fun i j hi _=>by simp only [mkI,intF,marksI_get hi,if_pos hi]
theorem mkC_end (k:Int) (f:Nat→Nat→Value) (n:Nat):∀ i j,i<n→j<3→mkC k f n i j=cellF (marksC k n) i j:=fun i j hi _=>by simp only [mkC,cellF,marksC_get hi,if_pos hi]
theorem grS {w W:World} {g:Nat} {p:Addr} {u:Value} (h:w.grownBy W (some g)) (hp:p.block=g):w.grownBy (W.setCell p u) (some g) :=
  ⟨h.os,h.tape,h.output,by simpa [World.setCell] using h.size,fun k hk hn=>(Below.heap_setCell W p u k (by
    rintro rfl
    exact hn (by rw [hp]))).trans (h.block k hk hn)⟩
theorem grR (w:World) (row:Option Nat):w.grownBy w row:=⟨rfl,rfl,rfl,Nat.le_refl _,fun _ _ _=>rfl⟩
set_option maxHeartbeats 400000 in
theorem markInt64S_any (n:Nat) (f:Nat→Nat→Value) (lo:Nat) (v:Value) (k:Int) (w:World) (h:New w lo v n 1 f) (h0:0≤k) (h1:k≤1099511627776) (hm:n≤1048576) :
    Calls Try.prog 59 #[v,.int .i64 k] w fun r w'=>r=.returned (.int .i64 (k+n))∧NewI w' lo v (marksI k n)∧w.grownBy w' v.ownBlock:=by
  rcases h with ⟨rfl,rfl⟩|⟨g,cap,rfl,hl,hL⟩
  · go_enter Try.func59,Try.ntmps59
    go_wp2
    go_loopw [1,5] (fun q i wr=>i=.int .i64 0∧q=.int .i64 k∧wr=w) (fun _ i _=>0 - (intOf i).toNat)
    case atStart=>exact ⟨rfl,rfl,rfl⟩
    case round =>
      obtain ⟨rfl,rfl,rfl⟩:=hrel
      go_wp2
      go_ret
      exact ⟨by simp,.inl ⟨rfl,rfl⟩,grR _ _⟩
  · have hW:=grR w (some g)
    go_enter Try.func59,Try.ntmps59
    go_wp2
    go_loopw [1,5] (fun q i wr=>∃ m:Nat,m≤n∧i=.int .i64 m∧q=.int .i64 (k+m)∧Lie wr g n 1 (mkI k f m)∧w.grownBy wr (some g)) (fun _ i _=>n - (intOf i).toNat)
    case atStart=>exact ⟨0,Nat.zero_le _,rfl,by simp,by rw [mkI_0];exact hL,hW⟩
    case round =>
      clear hL hW
      obtain ⟨m,hk,rfl,rfl,hL,hW⟩:=hrel
      by_cases hlt:m<n
      · have e0:=hL.cell hlt (show 0<1 by omega)
        simp only [Nat.add_zero,Nat.mul_one] at e0
        have f1:=hL.frozen
        go_wp2
        go_roundw
        case rel=>exact ⟨m+1,by omega,by go_num,by go_num,(hL.set1 hlt (.int .i64 (k+m))).congr (fun i j _ _=>mkI_step rfl i j),grS hW rfl⟩
        case measure=>simp [intOf];omega
      · have:m=n:=by omega
        subst this
        go_wp2
        go_ret
        exact ⟨rfl,.inr ⟨g,cap,by rw [marksI_len],hl,by rw [marksI_len];exact hL.congr (mkI_end k f m)⟩,hW⟩
set_option maxHeartbeats 1000000 in
theorem markCellS_any (n:Nat) (f:Nat→Nat→Value) (lo:Nat) (v:Value) (k:Int) (w:World) (h:New w lo v n 3 f) (h0:0≤k) (h1:k≤1099511627776) (hm:n≤1048576) :
    Calls Try.prog 58 #[v,.int .i64 k] w fun r w'=>r=.returned (.int .i64 (k+3*n))∧NewC w' lo v (marksC k n)∧w.grownBy w' v.ownBlock:=by
  rcases h with ⟨rfl,rfl⟩|⟨g,cap,rfl,hl,hL⟩
  · go_enter Try.func58,Try.ntmps58
    go_wp2
    go_loopw [1,5] (fun q i wr=>i=.int .i64 0∧q=.int .i64 k∧wr=w) (fun _ i _=>0 - (intOf i).toNat)
    case atStart=>exact ⟨rfl,rfl,rfl⟩
    case round =>
      obtain ⟨rfl,rfl,rfl⟩:=hrel
      go_wp2
      go_ret
      exact ⟨by simp,.inl ⟨rfl,rfl⟩,grR _ _⟩
  · have hW:=grR w (some g)
    go_enter Try.func58,Try.ntmps58
    go_wp2
    go_loopw [1,5] (fun q i wr=>∃ m:Nat,m≤n∧i=.int .i64 m∧q=.int .i64 (k+3*m)∧Lie wr g n 3 (mkC k f m)∧w.grownBy wr (some g)) (fun _ i _=>n - (intOf i).toNat)
    case atStart=>exact ⟨0,Nat.zero_le _,rfl,by simp,by rw [mkC_0];exact hL,hW⟩
    case round =>
      clear hL hW
      obtain ⟨m,hk,rfl,rfl,hL,hW⟩:=hrel
      by_cases hlt:m<n
      · have e0:=hL.cell hlt (show 0<3 by omega)
        have e1:=hL.cell hlt (show 1<3 by omega)
        have e2:=hL.cell hlt (show 2<3 by omega)
        simp only [Nat.add_zero] at e0
        have f1:=hL.frozen
        go_wp2
        go_roundw
        case rel=>exact ⟨m+1,by omega,by go_num,by go_num,(hL.set3 hlt (C3.val ⟨k+3*(m:Int),k+3*(m:Int)+1,k+3*(m:Int)+1+1⟩)).congr (fun i j _ _=>mkC_step (by congr 1;omega) i j),grS (grS (grS hW rfl) rfl) rfl⟩
        case measure=>simp [intOf];omega
      · have:m=n:=by omega
        subst this
        go_wp2
        go_ret
        exact ⟨rfl,.inr ⟨g,cap,by rw [marksC_len],hl,by rw [marksC_len];exact hL.congr (mkC_end k f m)⟩,hW⟩
set_option maxHeartbeats 1000000 in
theorem heldInt64S_any (n:Nat) (lo:Nat) (v:Value) (k:Int) (w:World) (h:NewI w lo v (marksI k n)) (h0:0≤k) (h1:k≤1099511627776) (hm:n≤1048576) :
    Calls Try.prog 61 #[v,.int .i64 k] w fun r w'=>r=.returned (.int .i64 (k+n))∧Below w.heap.size w w':=by
  obtain ⟨a,cap,rfl,hS⟩:=h.seg
  rw [marksI_len] at hS ⊢
  have HS:=Lib.hid hS
  clear hS h
  go_enter Try.func61,Try.ntmps61
  go_wp2
  go_loopw [1,5] (fun q i wr=>∃ m:Nat,m≤n∧i=.int .i64 m∧q=.int .i64 (k+m)∧Below w.heap.size w wr) (fun _ i _=>n - (intOf i).toNat)
  case atStart=>exact ⟨0,Nat.zero_le _,rfl,by simp,Below.refl _ _⟩
  case round =>
    obtain ⟨m,hk,rfl,rfl,hB⟩:=hrel
    by_cases hlt:m<n
    · obtain h0'|⟨b,o,rfl,hb,hc⟩:=HS.out
      · omega
      have c0:=(hB.cell (p:=⟨b,o+m*1+0,none⟩) hb).trans (hc m 0 hlt (by omega))
      simp only [intF,Nat.add_zero,Nat.mul_one,marksI_get hlt] at c0
      clear hc
      have hk0:(0:Int)≤(m:Int):=by omega
      have hk1:(m:Int)<(n:Int):=by omega
      go_wp2
      go_roundw
      case rel=>exact ⟨m+1,by omega,by go_num,by go_num,by exact zB⟩
      case measure=>simp [intOf];omega
    · have:m=n:=by omega
      subst this
      go_wp2
      go_ret
      exact ⟨rfl,hB⟩
set_option maxHeartbeats 1000000 in
theorem heldCellS_any (n:Nat) (lo:Nat) (v:Value) (k:Int) (w:World) (h:NewC w lo v (marksC k n)) (h0:0≤k) (h1:k≤1099511627776) (hm:n≤1048576) :
    Calls Try.prog 60 #[v,.int .i64 k] w fun r w'=>r=.returned (.int .i64 (k+3*n))∧Below w.heap.size w w':=by
  obtain ⟨a,cap,rfl,hS⟩:=h.seg
  rw [marksC_len] at hS ⊢
  have HS:=Lib.hid hS
  clear hS h
  go_enter Try.func60,Try.ntmps60
  go_wp2
  go_loopw [1,5] (fun q i wr=>∃ m:Nat,m≤n∧i=.int .i64 m∧q=.int .i64 (k+3*m)∧Below w.heap.size w wr) (fun _ i _=>n - (intOf i).toNat)
  case atStart=>exact ⟨0,Nat.zero_le _,rfl,by simp,Below.refl _ _⟩
  case round =>
    obtain ⟨m,hk,rfl,rfl,hB⟩:=hrel
    by_cases hlt:m<n
    · obtain h0'|⟨b,o,rfl,hb,hc⟩:=HS.out
      · omega
      have c0:=(hB.cell (p:=⟨b,o+m*3+0,none⟩) hb).trans (hc m 0 hlt (by omega))
      have c1:=(hB.cell (p:=⟨b,o+m*3+1,none⟩) hb).trans (hc m 1 hlt (by omega))
      have c2:=(hB.cell (p:=⟨b,o+m*3+2,none⟩) hb).trans (hc m 2 hlt (by omega))
      have e2:k+3*(m:Int)+2=k+3*(m:Int)+1+1:=by omega
      simp only [cellF,C3.val,Nat.add_zero,marksC_get hlt,e2] at c0 c1 c2
      clear hc
      have hk0:(0:Int)≤(m:Int):=by omega
      have hk1:(m:Int)<(n:Int):=by omega
      go_wp2
      go_roundw
      case rel=>exact ⟨m+1,by omega,by go_num,by go_num,by exact zB⟩
      case measure=>simp [intOf];omega
    · have:m=n:=by omega
      subst this
      go_wp2
      go_ret
      exact ⟨rfl,hB⟩
end Go.Proofs.Ytmnpgkcdfielbaa
