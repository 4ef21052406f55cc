/-
  The program's copy of a channel: the same in new memory; lists lie in memory and hold at most 2 ^ 40 elements.
  copy of elements of any size into a row of the call's own that it fills; no condition.
  The program's world of its own: a copy behind a pointer; the lists lie in memory and hold at most 1048576 elements.
-/
import Derived.Test.YtmnpgkcdfielbaaP18
import Derived.Test.YtmnpgkcdfielbaaP01
import Derived.Laws.CopyOwn
import Derived.Test.YtmnpgkcdfielbaaP14
set_option linter.unusedSimpArgs false
set_option linter.unusedVariables false
namespace Go.Proofs.Ytmnpgkcdfielbaa
open Go.RowKit
set_option maxRecDepth 100000 in
set_option maxHeartbeats 1000000 in
theorem copied_any (c:Ch) (a b:Option Addr) (p q:Nat) (w:World) (h1:Seg w w.heap.size a c.cells.length 3 (cellF c.cells)) (z1:a=none→p=0) (h2:Seg w w.heap.size b c.words.length 1 (intF c.words)) (z2:b=none→q=0) (m1:c.cells.length≤1099511627776) (m2:c.words.length≤1099511627776) :
    Calls Try.prog 52 #[.agg #[.int .i64 c.cap,.int .i64 c.sent,.int .i64 c.got,.int .i64 c.fin,.slice a c.cells.length p,.slice b c.words.length q]] w fun r w' =>
      (∃ v1 v2,r=.returned (.agg #[.int .i64 c.cap,.int .i64 c.sent,.int .i64 c.got,.int .i64 c.fin,v1,v2])∧OCells w' w.heap.size v1 c.cells∧OInts w' w.heap.size v2 c.words)∧Below w.heap.size w w':=by
  obtain ⟨cap,sent,got,fin,cells,words⟩:=c
  simp only at *
  have H1:=Lib.hid h1
  have Z1:=Lib.hid z1
  have H2:=Lib.hid h2
  have Z2:=Lib.hid z2
  clear h1 h2 z1 z2
  go_enter Try.func52,Try.ntmps52
  go_wp2_with fail
  refine (cloneC_any cells a p _ ((H1.out.below (by exact zB)).more (by simp;try omega)) Z1.out m1).mono ?_
  rintro _ w1 ⟨⟨v1,rfl,o1⟩,hb1⟩
  have hs1:=hb1.size
  simp at hs1
  have:=fun o=>hb1.cell (p:=⟨w.heap.size,o,none⟩) (by simp;omega)
  have:=fun o=>hb1.frozen (p:=⟨w.heap.size,o,none⟩) (by simp;omega)
  have:=fun o=>hb1.cell (p:=⟨w.heap.size+1,o,none⟩) (by simp)
  have:=fun o=>hb1.frozen (p:=⟨w.heap.size+1,o,none⟩) (by simp)
  have hB1:Below w.heap.size w w1:=bT (by exact zB) hb1
  have k0:w.heap.size<w1.heap.size:=by omega
  have k1:w.heap.size+1<w1.heap.size:=by omega
  have o1':=own_lo o1 (lo':=w.heap.size+1+1) (by simp)
  obtain ⟨va,vc,rfl,_⟩:=OCells.seg o1
  clear o1 hb1
  go_wp2_with fail
  refine (cloneI_any words b q _ ((H2.out.below hB1).setOther (by simp [World.setCell];omega) (by simp)) Z2.out m2).mono ?_
  rintro _ w2 ⟨⟨v2,rfl,o2⟩,hb2⟩
  have p1:=own_below (own_store o1' (p:=⟨w.heap.size,4,none⟩) (own_ne o1' (by (try simp);try omega)) (.slice va cells.length vc)) hb2
  have p2:=own_lo o2 (lo':=w.heap.size+1+1) (by simp [World.setCell];omega)
  obtain ⟨vb,vd,rfl,_⟩:=OInts.seg o2
  clear o2
  have hs2:=hb2.size
  simp [World.setCell] at hs2
  have hB2:Below w.heap.size w w2:=bT (by exact zB) hb2
  have:=fun o=>hb2.cell (p:=⟨w.heap.size,o,none⟩) (by simp [World.setCell];omega)
  have:=fun o=>hb2.frozen (p:=⟨w.heap.size,o,none⟩) (by simp [World.setCell];omega)
  have:=fun o=>hb2.cell (p:=⟨w.heap.size+1,o,none⟩) (by simp [World.setCell];omega)
  have:=fun o=>hb2.frozen (p:=⟨w.heap.size+1,o,none⟩) (by simp [World.setCell];omega)
  clear hb2
  have:w.heap.size<w2.heap.size:=by omega
  have:w.heap.size+1<w2.heap.size:=by omega
  go_wp2_with fail
  refine bodyPost_ret (v:=.agg #[.int .i64 cap,.int .i64 sent,.int .i64 got,.int .i64 fin,.slice va cells.length vc,.slice vb words.length vd]) (by simp [results,Try.results52,go_sem, *]) rfl ⟨⟨_,_,rfl,?_,?_⟩,?_⟩
  · refine own_lo (lo:=w.heap.size+1+1) ?_ (by omega)
    repeat (first|with_reducible exact p1|((with_reducible refine own_store ?_ ?_ _);rotate_left;(focus exact own_ne p1 (by (try simp);try omega))))
  · refine own_lo (lo:=w.heap.size+1+1) ?_ (by omega)
    repeat (first|with_reducible exact p2|((with_reducible refine own_store ?_ ?_ _);rotate_left;(focus exact own_ne p2 (by (try simp);try omega))))
  · exact zB
end Go.Proofs.Ytmnpgkcdfielbaa
set_option linter.unusedSimpArgs false
set_option linter.unusedVariables false
namespace Go.Proofs.Ytmnpgkcdfielbaa
open Go.RowKit
section
variable {P:Program}
theorem run_copy_big (w:World) (dT sT ty elem:TypeId) (g o dLen dCap k:Nat) (a:Addr) (sLen sCap:Nat) (cur:Array Value) (t:TypeId) (cs:List Value)
    (hu:P.underlying dT=some (.slice elem)) (hs:(P.info? elem).map (·.size)=some k)
    (hg:w.heap[g]?=some (.cells cur t (0,0))) (hn:cs.length=Nat.min sLen dLen*k)
    (hsrc:∀ j v,cs[j]?=some v→w.cell? (a.add j)=some v) (hfit:o+cs.length≤cur.size) (h1:∀ v ∈ cs,v.oneCell'=true) :
    (Builtin.copy_ #[dT,sT] ty #[.slice (some ⟨g,o,none⟩) dLen dCap,.slice (some a) sLen sCap]).run P w =
      .ok (goInt (Nat.min sLen dLen)) (w.setRow g (cur.toList.take o ++ cs ++ cur.toList.drop (o+cs.length)).toArray):=by
  have hl:=run_loadCells_list (P:=P) w a cs hsrc
  have hst:=run_storeCells_at P g o t cs 0 cur w hg (by simpa using hfit) h1
  cases hq:P.info? elem with
  | none=>simp [hq] at hs
  | some i =>
    have hi:i.size=k:=by simpa [hq] using hs
    simp [Builtin.copy_,run_underlying hu,Builtin.lenOf,Builtin.firstCells,sizeOf,typeInfo,hq,hi,← hn,hl,hst]
theorem run_copy_zero (w:World) (dT sT ty elem:TypeId) (d:Option Addr) (dLen dCap sLen sCap k:Nat) (hu:P.underlying dT=some (.slice elem)) (hs:(P.info? elem).map (·.size)=some k) (hz:sLen=0) :
    (Builtin.copy_ #[dT,sT] ty #[.slice d dLen dCap,.slice none sLen sCap]).run P w=.ok (goInt 0) w:=by
  subst hz
  cases hq:P.info? elem with
  | none=>simp [hq] at hs
  | some i=>cases d <;> simp [Builtin.copy_,run_underlying hu,Builtin.lenOf,Builtin.firstCells,sizeOf,typeInfo,hq,storeCells]
theorem setRow_gr (w:World) (g:Nat) (cs:Array Value):w.grownBy (w.setRow g cs) (some g):=⟨rfl,rfl,rfl,by simp [World.setRow],fun k _ hn=>setRow_other w g k cs (fun e=>hn (by rw [e]))⟩
/-- A row that was made is filled whole by copy. -/
theorem run_copy_fill (w:World) (dT sT ty elem:TypeId) (g n k:Nat) (sp:Option Addr) (sCap:Nat) (cur:Array Value) (t:TypeId) (xs:List Value)
    (hu:P.underlying dT=some (.slice elem)) (hs:(P.info? elem).map (·.size)=some k) (hg:w.heap[g]?=some (.cells cur t (0,0))) (hc:cur.size=n*k) (hl:xs.length=n*k)
    (hz:sp=none→n=0) (hsrc:∀ ad,sp=some ad→∀ j v,xs[j]?=some v→w.cell? (ad.add j)=some v) (h1:∀ v ∈ xs,v.oneCell'=true) :
    ∃ w',(Builtin.copy_ #[dT,sT] ty #[.slice (some ⟨g,0,none⟩) n n,.slice sp n sCap]).run P w=.ok (goInt n) w'∧w'.heap[g]?=some (.cells xs.toArray t (0,0))∧w.grownBy w' (some g):=by
  rcases sp with _|ad
  · obtain rfl:=hz rfl
    refine ⟨w,run_copy_zero w dT sT ty elem _ 0 0 0 sCap k hu hs rfl,?_,⟨rfl,rfl,rfl,Nat.le_refl _,fun _ _ _=>rfl⟩⟩
    have e1:xs=[]:=List.eq_nil_of_length_eq_zero (by simpa using hl)
    have e2:cur=#[]:=Array.eq_empty_of_size_eq_zero (by simpa using hc)
    rw [hg,e1,e2]
  · have hm:Nat.min n n=n:=Nat.min_self n
    have:=run_copy_big (P:=P) w dT sT ty elem g 0 n n k ad n sCap cur t xs hu hs hg (by rw [hm];exact hl) (hsrc ad rfl) (by omega) h1
    rw [hm] at this
    refine ⟨_,this,?_,setRow_gr w g _⟩
    have:=setRow_heap w g cur ((cur.toList.take 0 ++ xs ++ cur.toList.drop (0+xs.length)).toArray) t (0,0) hg
    rw [this]
    have e:cur.toList.drop (0+xs.length)=[]:=by apply List.drop_eq_nil_of_le;simp;omega
    rw [e]
    simp
end
theorem own_fill {w:World} {lo g n k:Nat} {t:TypeId} {xs:List Value} (h:w.heap[g]?=some (.cells xs.toArray t (0,0))) (hl:xs.length=n*k) (hlo:lo≤g) (hm:n≤maxLen):w.ownsRow lo t k (.slice (some ⟨g,0,none⟩) n n) n xs :=
  ⟨hl,.inr ⟨g,n,xs.toArray,rfl,hlo,h,Nat.le_refl _,hm,by simp [hl],by simp [← hl]⟩⟩
end Go.Proofs.Ytmnpgkcdfielbaa
set_option linter.unusedSimpArgs false
set_option linter.unusedVariables false
namespace Go.Proofs.Ytmnpgkcdfielbaa
open Go.RowKit
set_option linter.unusedSimpArgs false
attribute [local simp] bx_size
def WBoxR (w w':World) (x:Wo) (r:Ending):Prop:=(∃ B v1 v2 v3 v4,r=.returned (.pointer (some ⟨B,0,none⟩))∧w.heap.size≤B∧hp w' B=some (.cells (wvals x v1 v2 v3 v4) 37)∧WOwn w' w.heap.size v1 v2 v3 v4 x)∧Below w.heap.size w w'
set_option maxRecDepth 100000 in
set_option maxHeartbeats 4000000 in
theorem owned_any (x:Wo) (a b d e:Option Addr) (p q r s:Nat) (w:World) (h:SegW w w.heap.size x a b d e) (z:NoneW x a b d e p q r s) (m:LenW x) :
    Calls Try.prog 23 #[.agg #[.int .i64 x.ch.cap,.int .i64 x.ch.sent,.int .i64 x.ch.got,.int .i64 x.ch.fin,.slice a x.ch.cells.length p,.slice b x.ch.words.length q,.slice d x.hands.length r,.slice e x.deals.length s,.int .i64 x.now]] w fun r w'=>WBoxR w w' x r:=by
  obtain ⟨h1,h2,h3,h4⟩:=h
  obtain ⟨z1,z2,z3,z4⟩:=z
  obtain ⟨m1,m2,m3,m4⟩:=m
  have H1:=Lib.hid h1
  have H2:=Lib.hid h2
  have H3:=Lib.hid h3
  have H4:=Lib.hid h4
  have Z3:=Lib.hid z3
  have Z4:=Lib.hid z4
  have M1:x.ch.cells.length≤1099511627776:=by omega
  have M2:x.ch.words.length≤1099511627776:=by omega
  have hmk3:=mkHands x.hands.length m3
  have hmk4:=mkDeals x.deals.length m4
  clear h1 h2 h3 h4 z3 z4
  go_enter Try.func23,Try.ntmps23
  go_wp2_with fail
  go_wp2_with fail;refine bHit w (by exact zB) fun bb=>?_;refine (copied_any x.ch a b p q _ ((H1.out.below bb).more bb.size) z1 ((H2.out.below bb).more bb.size) z2 M1 M2).mono ?_;rintro _ w1 ⟨⟨v1,v2,rfl,o1,o2⟩,hbw1⟩;have hCw1:Below w.heap.size w w1:=bT bb hbw1;have hsw1:=hbw1.size;(try simp at hsw1);have zz:=And.intro (hQ hbw1 (b:=w.heap.size+1)) <| hQ hbw1 (b:=w.heap.size);(try simp [go_sem] at zz);(try clear z_wp x_wp f_wp l_wp);(try clear z_w x_w f_w l_w);obtain ⟨z_wp,z_w⟩:=zz;obtain ⟨x_wp,f_wp,l_wp⟩:=bO z_wp;obtain ⟨x_w,f_w,l_w⟩:=bO z_w;clear hbw1 bb
  replace o1:=own_lo (lo':=w.heap.size+1+1) o1 (by simp)
  replace o2:=own_lo (lo':=w.heap.size+1+1) o2 (by simp)
  have o10:=o1
  have o20:=o2
  obtain ⟨va,vc,rfl,_⟩:=OCells.seg o1
  obtain ⟨vb,vd,rfl,_⟩:=OInts.seg o2
  go_wp2_with fail
  have hCa0:=hCw1
  generalize hwa:World.alloc _ _=wa
  have hga:hp wa w1.heap.size=some (.cells (madeCells (hvals Ha.zero) (x.hands.length*14)) 53):=by rw [← hwa];simp [go_sem]
  have z_a:hp wa w.heap.size=some (.cells (wvals x (.slice a x.ch.cells.length p) (.slice b x.ch.words.length q) (.slice d x.hands.length r) (.slice e x.deals.length s)) 37):=by rw [← hwa];simp [go_sem,z_w,l_w];rfl
  have z_b:hp wa (w.heap.size+1)=some (.cells (wvals x (.slice va x.ch.cells.length vc) (.slice vb x.ch.words.length vd) (.slice (some ⟨w1.heap.size,0,none⟩) x.hands.length x.hands.length) (.slice e x.deals.length s)) 37):=by rw [← hwa];simp [go_sem,z_wp,l_wp];rfl
  have hBa:Below w.heap.size w wa:=by rw [← hwa];exact zB
  have hsa:wa.heap.size=w1.heap.size+1:=by rw [← hwa];simp
  have i1:wa.ownsRow (w.heap.size+1+1) 98 3 (.slice va x.ch.cells.length vc) x.ch.cells.length (flatC x.ch.cells):=(by rw [← hwa];(repeat (first|with_reducible exact o10|with_reducible refine World.ownsRow.alloc ?_ _|((with_reducible refine own_store ?_ ?_ _);rotate_left;(focus exact own_ne o10 (by (try simp);try omega))))))
  have i2:wa.ownsRow (w.heap.size+1+1) 2 1 (.slice vb x.ch.words.length vd) x.ch.words.length (ints x.ch.words):=(by rw [← hwa];(repeat (first|with_reducible exact o20|with_reducible refine World.ownsRow.alloc ?_ _|((with_reducible refine own_store ?_ ?_ _);rotate_left;(focus exact own_ne o20 (by (try simp);try omega))))))
  clear hwa o1 o2 o10 o20 z_w z_wp x_w x_wp f_w f_wp l_w l_wp
  obtain ⟨w2,hrun,hg2,gr2⟩:=run_copy_fill (P:=Try.prog) wa 34 34 3 53 w1.heap.size x.hands.length 14 d r _ 53 (flatH x.hands) Try.underlying34 (by kernel_rfl) hga (by simp [madeCells]) (flatH_len _) (fun e=>(Z3.out e).1) (Seg.news (H3.out.below hBa) (flatH_len _) (flatH_get _)) (flatH_one _)
  rw [hrun]
  replace i1:=World.ownsRow.kept i1 gr2 (.inr fun e=>own_offs i1 hga (by decide) _ e rfl)
  replace i2:=World.ownsRow.kept i2 gr2 (.inr fun e=>own_offs i2 hga (by decide) _ e rfl)
  have i3:w2.ownsRow (w.heap.size+1+1) 53 14 (.slice (some ⟨w1.heap.size,0,none⟩) x.hands.length x.hands.length) x.hands.length (flatH x.hands):=own_fill hg2 (flatH_len _) (by omega) (by unfold maxLen;omega)
  replace z_a:=(grHp gr2 (bO z_a).2.2 (by simp;omega)).trans z_a
  replace z_b:=(grHp gr2 (bO z_b).2.2 (by simp;omega)).trans z_b
  have hB2:Below w.heap.size w w2:=bOwn hBa gr2 hBa.size (fun k hk=>by simp at hk;omega)
  obtain ⟨x_a,f_a,l_a⟩:=bO z_a
  obtain ⟨x_b,f_b,l_b⟩:=bO z_b
  simp only [wvals] at x_a x_b
  have hs2:=gr2.size
  clear hrun gr2 hga hg2
  go_wp2_with fail
  generalize hwb:World.alloc _ _=wb
  have hgb:hp wb w2.heap.size=some (.cells (madeCells (dvals De.zero) (x.deals.length*7)) 74):=by rw [← hwb];simp [go_sem]
  have y_a:hp wb w.heap.size=some (.cells (wvals x (.slice a x.ch.cells.length p) (.slice b x.ch.words.length q) (.slice d x.hands.length r) (.slice e x.deals.length s)) 37):=by rw [← hwb];simp [go_sem,z_a,l_a]
  have y_b:hp wb (w.heap.size+1)=some (.cells (wvals x (.slice va x.ch.cells.length vc) (.slice vb x.ch.words.length vd) (.slice (some ⟨w1.heap.size,0,none⟩) x.hands.length x.hands.length) (.slice (some ⟨w2.heap.size,0,none⟩) x.deals.length x.deals.length)) 37):=by rw [← hwb];simp [go_sem,z_b,l_b,wvals]
  have hBb:Below w.heap.size w wb:=by rw [← hwb];exact zB
  have hsb:wb.heap.size=w2.heap.size+1:=by rw [← hwb];simp
  have j1:wb.ownsRow (w.heap.size+1+1) 98 3 (.slice va x.ch.cells.length vc) x.ch.cells.length (flatC x.ch.cells):=(by rw [← hwb];(repeat (first|with_reducible exact i1|with_reducible refine World.ownsRow.alloc ?_ _|((with_reducible refine own_store ?_ ?_ _);rotate_left;(focus exact own_ne i1 (by (try simp);try omega))))))
  have j2:wb.ownsRow (w.heap.size+1+1) 2 1 (.slice vb x.ch.words.length vd) x.ch.words.length (ints x.ch.words):=(by rw [← hwb];(repeat (first|with_reducible exact i2|with_reducible refine World.ownsRow.alloc ?_ _|((with_reducible refine own_store ?_ ?_ _);rotate_left;(focus exact own_ne i2 (by (try simp);try omega))))))
  have j3:wb.ownsRow (w.heap.size+1+1) 53 14 (.slice (some ⟨w1.heap.size,0,none⟩) x.hands.length x.hands.length) x.hands.length (flatH x.hands):=(by rw [← hwb];(repeat (first|with_reducible exact i3|with_reducible refine World.ownsRow.alloc ?_ _|((with_reducible refine own_store ?_ ?_ _);rotate_left;(focus exact own_ne i3 (by (try simp);try omega))))))
  clear hwb i1 i2 i3 z_a z_b x_a x_b f_a f_b l_a l_b
  obtain ⟨w3,hrun,hg3,gr3⟩:=run_copy_fill (P:=Try.prog) wb 35 35 3 74 w2.heap.size x.deals.length 7 e s _ 74 (flatD x.deals) Try.underlying35 (by kernel_rfl) hgb (by simp [madeCells]) (flatD_len _) (fun e=>(Z4.out e).1) (Seg.news (H4.out.below hBb) (flatD_len _) (flatD_get _)) (flatD_one _)
  rw [hrun]
  replace j1:=World.ownsRow.kept j1 gr3 (.inr fun e=>own_offs j1 hgb (by decide) _ e rfl)
  replace j2:=World.ownsRow.kept j2 gr3 (.inr fun e=>own_offs j2 hgb (by decide) _ e rfl)
  replace j3:=World.ownsRow.kept j3 gr3 (.inr fun e=>own_offs j3 hgb (by decide) _ e rfl)
  have j4:w3.ownsRow (w.heap.size+1+1) 74 7 (.slice (some ⟨w2.heap.size,0,none⟩) x.deals.length x.deals.length) x.deals.length (flatD x.deals):=own_fill hg3 (flatD_len _) (by omega) (by unfold maxLen;omega)
  replace y_b:=(grHp gr3 (bO y_b).2.2 (by simp;omega)).trans y_b
  have hB3:Below w.heap.size w w3:=bOwn hBb gr3 hBb.size (fun k hk=>by simp at hk;omega)
  clear hrun gr3 hgb hg3 y_a
  go_wp2
  go_ret
  exact ⟨⟨_,_,_,_,_,rfl,by omega,y_b,own_lo j1 (by omega),own_lo j2 (by omega),own_lo j3 (by omega),own_lo j4 (by omega)⟩,hB3⟩
end Go.Proofs.Ytmnpgkcdfielbaa
