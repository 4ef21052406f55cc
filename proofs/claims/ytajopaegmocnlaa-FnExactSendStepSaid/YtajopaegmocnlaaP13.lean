/-
  The program's asking ahead of and behind a touch, whatever the touch, on hands and channels that are kept whole; lists lie in memory.
  The program's touch of sending, every case, and its step, on hands and channels that are kept whole; lists lie in memory and hold at most as much as memory can hold.
  The program's touch of sending, every case, and its step, on hands and channels that are kept whole; lists lie in memory and hold at most as much as memory can hold.
  What the document's functions of chapters 11 and 12 compute, as plain functions on numbers and lists; no condition.
  What steps leave right, on plain numbers and lists: right worlds stay right, and one who is stepped alone waits in at most one cell; no condition.
  Right worlds stay right, on plain numbers and lists; no condition.
-/
import Derived.Test.YtajopaegmocnlaaP12
import Derived.Test.YtajopaegmocnlaaP09
import Derived.Laws.EntriesVeiled
import Derived.BigRegion
import Derived.Test.YtajopaegmocnlaaP07
set_option linter.unusedSimpArgs false
set_option linter.unusedVariables false
namespace Go.Proofs.Ytajopaegmocnlaa
open Go.RowKit
set_option linter.unusedSimpArgs false
attribute [local simp] bx_size
attribute [local go_sem ↓] zeroHand zeroChan toLHand toLChan toVHand toVChan storeHand storeChan storeHandC storeChanC
theorem iChanOk_any (c:Ch) (a b:Option Addr) (p q:Nat) (w:World) (h1:Seg w w.heap.size a c.cells.length 3 (cellF c.cells)) (h2:Seg w w.heap.size b c.words.length 1 (intF c.words)) (m1:c.cells.length≤maxLen) (m2:c.words.length≤maxLen) :
    Calls Try.prog 55 #[.agg (cvals c (.slice a c.cells.length p) (.slice b c.words.length q))] w fun r w'=>r=.returned (.bool (chanOk c))∧Below w.heap.size w w':=chanOk_any c a b p q w h1 h2 m1 m2
theorem iCopied_any (c:Ch) (a b:Option Addr) (p q:Nat) (w:World) (h1:Seg w w.heap.size a c.cells.length 3 (cellF c.cells)) (z1:a=none→p=0) (h2:Seg w w.heap.size b c.words.length 1 (intF c.words)) (z2:b=none→q=0) (m1:c.cells.length≤1099511627776) (m2:c.words.length≤1099511627776) :
    Calls Try.prog 58 #[.agg (cvals c (.slice a c.cells.length p) (.slice b c.words.length q))] w fun r w'=>(∃ v1 v2,r=.returned (.agg (cvals c v1 v2))∧OCells w' w.heap.size v1 c.cells∧OInts w' w.heap.size v2 c.words)∧Below w.heap.size w w':=copied_any c a b p q w h1 z1 h2 z2 m1 m2
/-- What is answered behind a touch. -/
def fin7 (x:St):St:=if chanOk x.1 && handOk x.2.1 then x else nothing
theorem own_max {w:World} {lo:Nat} {e:TypeId} {k n p:Nat} {a:Option Addr} {xs:List Value} (h:w.ownsRow lo e k (.slice a n p) n xs):n≤maxLen:=by
  rcases h.2 with ⟨_,h1⟩|⟨g,cap,cur,_,_,_,h1,h2,_⟩
  · omega
  · exact Nat.le_trans h1 h2
theorem hp_onl {w w':World} {v1 v2:Value} {lo lo' b k k' n n':Nat} {e e' T:TypeId} {x:Array Value} {xs xs':List Value} (hz:hp w b=some (.cells x T)) (hO:Onl v1.ownBlock v2.ownBlock w w') (o1:w.ownsRow lo e k v1 n xs) (o2:w.ownsRow lo' e' k' v2 n' xs') (h1:e≠T) (h2:e'≠T):hp w' b=some (.cells x T) :=
  (onlHp hO (bO hz).2.2 (fun e=>own_offs o1 hz h1 _ e.symm rfl) (fun e=>own_offs o2 hz h2 _ e.symm rfl)).trans hz
theorem IsBox.onl {w w':World} {v v1 v2:Value} {lo lo1 lo2 k k' n n':Nat} {e e' T:TypeId} {x:Array Value} {xs xs':List Value} (h:IsBox w v lo x T) (hO:Onl v1.ownBlock v2.ownBlock w w') (o1:w.ownsRow lo1 e k v1 n xs) (o2:w.ownsRow lo2 e' k' v2 n' xs') (h1:e≠T) (h2:e'≠T):IsBox w' v lo x T:=by
  obtain ⟨b,eb,hl,hz⟩:=h
  exact ⟨b,eb,hl,hp_onl hz hO o1 o2 h1 h2⟩
set_option maxRecDepth 100000 in
set_option maxHeartbeats 8000000 in
theorem touched_via (F:Nat) (x:St) (c:Ch) (h:Ha) (a b:Option Addr) (p q:Nat) (w:World) (h1:Seg w w.heap.size a c.cells.length 3 (cellF c.cells)) (z1:a=none→p=0) (h2:Seg w w.heap.size b c.words.length 1 (intF c.words)) (z2:b=none→q=0) (hc:chanOk c=true) (hh:handOk h=true) (eg:∀ args w,(callFunc F args).run Try.prog w=.ok (.enter F args) w) (HF:∀ (v1 v2:Value) (lo:Nat) (W:World),OCells W lo v1 c.cells→OInts W lo v2 c.words→lo≤W.heap.size→Calls Try.prog F #[.agg (cvals c v1 v2),.agg (hvals h)] W fun r w'=>StepO W w' lo v1 v2 x r) :
    Calls Try.prog 31 #[.func (.func F) #[] #[],.agg (cvals c (.slice a c.cells.length p) (.slice b c.words.length q)),.agg (hvals h)] w fun r w'=>StepN w w' (fin7 x) r:=by
  obtain ⟨n1,n2⟩:=chan_len hc
  have l1:c.cells.length≤maxLen:=by unfold maxLen;omega
  have l2:c.words.length≤maxLen:=by unfold maxLen;omega
  have m1:c.cells.length≤1099511627776:=by omega
  have m2:c.words.length≤1099511627776:=by omega
  have H1:=Lib.hid h1
  have H2:=Lib.hid h2
  have Z1:=Lib.hid z1
  have Z2:=Lib.hid z2
  clear h1 h2 z1 z2 n1 n2
  obtain ⟨X,hXe⟩:∃ X,X=fin7 x:=⟨_,rfl⟩
  rw [← hXe]
  have HFF:=Lib.hid HF
  clear HF
  go_enter Try.func31,Try.ntmps31
  go_wp2_with fail;refine bHit w (by exact zB) fun bb=>?_;refine (iChanOk_any c a b p q _ ((H1.out.below bb).more bb.size) ((H2.out.below bb).more bb.size) l1 l2).mono ?_;rintro _ w1 ⟨rfl,hbw1⟩;have hCw1:Below w.heap.size w w1:=bT bb hbw1;have hsw1:=hbw1.size;(try simp at hsw1);have zz:=q4 hbw1 (b:=w.heap.size);(try simp [go_sem] at zz);(try clear z_wppp x_wppp f_wppp l_wppp);(try clear z_wpp x_wpp f_wpp l_wpp);(try clear z_wp x_wp f_wp l_wp);(try clear z_w x_w f_w l_w);obtain ⟨z_wppp,z_wpp,z_wp,z_w⟩:=zz;obtain ⟨x_wppp,f_wppp,l_wppp⟩:=bO z_wppp;obtain ⟨x_wpp,f_wpp,l_wpp⟩:=bO z_wpp;obtain ⟨x_wp,f_wp,l_wp⟩:=bO z_wp;obtain ⟨x_w,f_w,l_w⟩:=bO z_w;clear hbw1 bb
  rw [hc]
  go_wp2_with fail;refine bHit w (by exact zB) fun bb=>?_;refine (handOk_any h _).mono ?_;rintro _ w2 ⟨rfl,hbw2⟩;have hCw2:Below w.heap.size w w2:=bT bb hbw2;have hsw2:=hbw2.size;(try simp at hsw2);have zz:=q4 hbw2 (b:=w.heap.size);(first|simp [go_sem,z_wppp,z_wpp,z_wp,z_w,l_w,l_wp,l_wpp,l_wppp] at zz|simp [go_sem] at zz|skip);(try clear z_wppp x_wppp f_wppp l_wppp);(try clear z_wpp x_wpp f_wpp l_wpp);(try clear z_wp x_wp f_wp l_wp);(try clear z_w x_w f_w l_w);obtain ⟨z_wppp,z_wpp,z_wp,z_w⟩:=zz;obtain ⟨x_wppp,f_wppp,l_wppp⟩:=bO z_wppp;obtain ⟨x_wpp,f_wpp,l_wpp⟩:=bO z_wpp;obtain ⟨x_wp,f_wp,l_wp⟩:=bO z_wp;obtain ⟨x_w,f_w,l_w⟩:=bO z_w;clear hbw2 bb
  rw [hh]
  go_upto_region 3 with fail
  refine wp_region_inv [[],[],[1],[],[0,1,2,3],[0,1,2,3,4],[0,1,2,3,4,5],[0,1,2,3,4,5],[0,1,2,3,4,5],[],[],[0,1,2,3,4,5,6,9],[0,1,2,3,4,5,7,10],[0,1,2,3,4,5,8]] [25,26,27,28,29,24,30,31,32,9,10,11] (fun l s wx=>(Below w2.heap.size w2 wx)∧(l 0=true→s 25=.func (.func F) #[] #[])∧(l 1=true→s 26=.agg (cvals c (.slice a c.cells.length p) (.slice b c.words.length q)))∧(l 2=true→l 4=false→s 27=.agg (cvals c (s 1001) (s 1002))∧OCells wx w2.heap.size (s 1001) c.cells∧OInts wx w2.heap.size (s 1002) c.words)∧(l 3=true→s 28=.agg (hvals h))∧(l 4=true→s 29=.tuple #[.agg (cvals x.1 (s 1003) (s 1004)),.agg (hvals x.2.1),.bool x.2.2]∧OCells wx w2.heap.size (s 1003) x.1.cells∧OInts wx w2.heap.size (s 1004) x.1.words)∧(l 5=true→s 24=.tuple #[.agg (cvals x.1 (s 1003) (s 1004)),.agg (hvals x.2.1),.bool x.2.2])∧(l 6=true→s 30=.agg (cvals x.1 (s 1003) (s 1004)))∧(l 7=true→s 31=.agg (hvals x.2.1))∧(l 8=true→s 32=.bool x.2.2)∧(l 9=true→IsBox wx (s 9) w2.heap.size (cond (l 11) (cvals x.1 (s 1003) (s 1004)) (cvals Ch.zero (.slice none 0 0) (.slice none 0 0))) 33)∧(l 10=true→IsBox wx (s 10) w2.heap.size (cond (l 12) (hvals x.2.1) (hvals Ha.zero)) 36)∧(l 13=true→s 11=.bool x.2.2)) (by kernel_rfl) (by kernel_rfl) (by kernel_rfl) (fun s=>by (simp only [fill,fillA,List.setIfInBounds_toArray,List.set_cons_zero,List.set_cons_succ];rfl)) (fun s=>⟨(Below.refl _ _).drew,fun h=>absurd h Bool.false_ne_true,fun h=>absurd h Bool.false_ne_true,fun h=>absurd h Bool.false_ne_true,fun h=>absurd h Bool.false_ne_true,fun h=>absurd h Bool.false_ne_true,fun h=>absurd h Bool.false_ne_true,fun h=>absurd h Bool.false_ne_true,fun h=>absurd h Bool.false_ne_true,fun h=>absurd h Bool.false_ne_true,fun h=>absurd h Bool.false_ne_true,fun h=>absurd h Bool.false_ne_true,fun h=>absurd h Bool.false_ne_true⟩) ?_ ?_
  refine ⟨?_,?_,?_,?_,?_,?_,?_,?_,?_,?_,?_,?_,?_,?_,trivial⟩;rotate_left 14
  · intro l s w8 hall hf
    have hB:=hf.1
    obtain ⟨_,oX1,oX2⟩:=(hf.2.2.2.2.2.1 (hall 4 rfl))
    obtain ⟨gc,ea,hgc,z_gc⟩:=(hf.2.2.2.2.2.2.2.2.2.2.1 (hall 9 rfl))
    obtain ⟨gh,eb,hgh,z_gh⟩:=(hf.2.2.2.2.2.2.2.2.2.2.2.1 (hall 10 rfl))
    have ec:=(hf.2.2.2.2.2.2.2.2.2.2.2.2 (hall 13 rfl))
    rw [hall 11 rfl] at z_gc
    rw [hall 12 rfl] at z_gh
    dsimp only [cond] at z_gc z_gh
    simp only [ea,eb,ec]
    clear ea eb ec hf hall
    generalize s 1003=v1 at *
    generalize s 1004=v2 at *
    have hCw8:Below w.heap.size w w8:=bT hCw2 hB
    have z8:=hpS z_wpp hB
    have z9:=hpS z_wppp hB
    have hq2:=(bO z_wppp).2.2
    clear z_w x_w f_w l_w z_wp x_wp f_wp l_wp z_wpp x_wpp f_wpp l_wpp z_wppp x_wppp f_wppp l_wppp
    have z_wpp:=z8
    have z_wppp:=z9
    clear z8 z9
    have hz8:=hB.size
    have hg0:w.heap.size+1+1<gc:=by omega
    have hg1:w.heap.size+1+1+1<gc:=by omega
    have hg2:w.heap.size+1+1<gh:=by omega
    have hg3:w.heap.size+1+1+1<gh:=by omega
    clear HFF
    obtain ⟨c2,h2,ok⟩:=x
    replace oX1:OCells w8 (w.heap.size+1+1+1+1) v1 c2.cells:=own_lo oX1 (by omega)
    replace oX2:OInts w8 (w.heap.size+1+1+1+1) v2 c2.words:=own_lo oX2 (by omega)
    dsimp only at z_gc z_gh ⊢
    obtain ⟨ya,yp,rfl,G1⟩:=oX1.seg
    obtain ⟨yb,yq,rfl,G2⟩:=oX2.seg
    obtain ⟨x_gc,f_gc,l_gc⟩:=bO z_gc
    obtain ⟨x_gh,f_gh,l_gh⟩:=bO z_gh
    obtain ⟨x_wpp,f_wpp,l_wpp⟩:=bO z_wpp
    obtain ⟨x_wppp,f_wppp,l_wppp⟩:=bO z_wppp
    have L1:=own_max oX1
    have L2:=own_max oX2
    have K1:=Lib.hid G1
    have K2:=Lib.hid G2
    clear G1 G2
    have T:=Lib.hid fun W=>refused_any W w.heap.size (.slice none 0 0) (.slice none 0 0)
    have d1:∀ j,(Value.slice none 0 0).ownBlock=some j→w.heap.size+1+1+1+1≤j:=fun j hj=>by cases hj
    have d2:=d1
    cases hc2:chanOk c2 with
    | false =>
      have E:X=nothing:=hXe.trans (by simp [fin7,hc2])
      rw [← E] at T
      clear E hXe
      go_wp2_with fail
      refine (iChanOk_any c2 ya yb yp yq _ ((K1.out.below (by exact zB)).more (by (try simp) <;> omega)) ((K2.out.below (by exact zB)).more (by (try simp) <;> omega)) L1 L2).mono ?_
      rintro _ w9 ⟨rfl,hbw9⟩
      have hCw9:Below w.heap.size w w9:=bT (by exact zB) hbw9
      have hKw9:Below w8.heap.size w8 w9:=bT (by exact zB) hbw9
      have hsw9:=hbw9.size;(try (simp at hsw9));have zz:=hQ hbw9 (b:=gc);(first|(simp [go_sem,z_gc,l_gc] at zz)|(simp [go_sem] at zz));(try clear x_gc f_gc);(try clear z_gc);have z_gc:=zz;clear zz;(try clear l_gc);obtain ⟨x_gc,f_gc,l_gc⟩:=bO z_gc;have zz:=hQ hbw9 (b:=gh);(first|(simp [go_sem,z_gh,l_gh] at zz)|(simp [go_sem] at zz));(try clear x_gh f_gh);(try clear z_gh);have z_gh:=zz;clear zz;(try clear l_gh);obtain ⟨x_gh,f_gh,l_gh⟩:=bO z_gh;have zz:=hQ hbw9 (b:=w.heap.size+1+1);(first|(simp [go_sem,z_wpp,l_wpp] at zz)|(simp [go_sem] at zz));(try clear x_wpp f_wpp);(try clear z_wpp);have z_wpp:=zz;clear zz;(try clear l_wpp);obtain ⟨x_wpp,f_wpp,l_wpp⟩:=bO z_wpp;have zz:=hQ hbw9 (b:=w.heap.size+1+1+1);(first|(simp [go_sem,z_wppp,l_wppp] at zz)|(simp [go_sem] at zz));(try clear x_wppp f_wppp);(try clear z_wppp);have z_wppp:=zz;clear zz;(try clear l_wppp);obtain ⟨x_wppp,f_wppp,l_wppp⟩:=bO z_wppp
      rw [hc2]
      go_wp2_with fail
      refine (T.out _).mono ?_
      rintro _ w11 ⟨⟨y1,y2,rfl,oY1,oY2,fY1,fY2⟩,hbw11⟩
      have hCw11:Below w.heap.size w w11:=bT (by exact zB) hbw11
      have hsw11:=hbw11.size;(try (simp at hsw11));have zz:=hQ hbw11 (b:=w.heap.size+1+1);(first|(simp [go_sem,z_wpp,l_wpp] at zz)|(simp [go_sem] at zz));(try clear x_wpp f_wpp);(try clear z_wpp);have z_wpp:=zz;clear zz;(try clear l_wpp);obtain ⟨x_wpp,f_wpp,l_wpp⟩:=bO z_wpp;have zz:=hQ hbw11 (b:=w.heap.size+1+1+1);(first|(simp [go_sem,z_wppp,l_wppp] at zz)|(simp [go_sem] at zz));(try clear x_wppp f_wppp);(try clear z_wppp);have z_wppp:=zz;clear zz;(try clear l_wppp);obtain ⟨x_wppp,f_wppp,l_wppp⟩:=bO z_wppp
      have hoff1:∀ j,w.heap.size≤j→j<w.heap.size+1+1+1+1→y1.ownBlock≠some j:=fun j _ h2=>fY1.off2 d1 h2 (by (try simp) <;> omega);have hoff2:∀ j,w.heap.size≤j→j<w.heap.size+1+1+1+1→y2.ownBlock≠some j:=fun j _ h2=>fY2.off2 d2 h2 (by (try simp) <;> omega);have fr1:Fresh w (.slice none 0 0) y1:=fun j hj=>.inr (fY1.up d1 (by (try simp) <;> omega) (by (try simp) <;> omega) j hj);have fr2:Fresh w (.slice none 0 0) y2:=fun j hj=>.inr (fY2.up d2 (by (try simp) <;> omega) (by (try simp) <;> omega) j hj);obtain ⟨ya,yp,rfl,_⟩:=oY1.seg;obtain ⟨yb,yq,rfl,_⟩:=oY2.seg
      go_wp2
      refine bodyPost_ret (res_cct Try.results31 rfl (ldChan X.1 (.slice ya X.1.cells.length yp) (.slice yb X.1.words.length yq) (by simp [go_sem, *])) rfl (ldHand X.2.1 (by simp [go_sem, *]))) rfl ⟨⟨_,_,rfl,?_,?_,fr1,fr2⟩,by exact zB⟩
      · exact zP oY1 oY1 hoff1
      · exact zP oY2 oY2 hoff2
    | true =>
      cases hh2:handOk h2 with
      | false =>
        have E:X=nothing:=hXe.trans (by simp [fin7,hh2])
        rw [← E] at T
        clear E hXe
        go_wp2_with fail
        refine (iChanOk_any c2 ya yb yp yq _ ((K1.out.below (by exact zB)).more (by (try simp) <;> omega)) ((K2.out.below (by exact zB)).more (by (try simp) <;> omega)) L1 L2).mono ?_
        rintro _ w9 ⟨rfl,hbw9⟩
        have hCw9:Below w.heap.size w w9:=bT (by exact zB) hbw9
        have hKw9:Below w8.heap.size w8 w9:=bT (by exact zB) hbw9
        have hsw9:=hbw9.size;(try (simp at hsw9));have zz:=hQ hbw9 (b:=gc);(first|(simp [go_sem,z_gc,l_gc] at zz)|(simp [go_sem] at zz));(try clear x_gc f_gc);(try clear z_gc);have z_gc:=zz;clear zz;(try clear l_gc);obtain ⟨x_gc,f_gc,l_gc⟩:=bO z_gc;have zz:=hQ hbw9 (b:=gh);(first|(simp [go_sem,z_gh,l_gh] at zz)|(simp [go_sem] at zz));(try clear x_gh f_gh);(try clear z_gh);have z_gh:=zz;clear zz;(try clear l_gh);obtain ⟨x_gh,f_gh,l_gh⟩:=bO z_gh;have zz:=hQ hbw9 (b:=w.heap.size+1+1);(first|(simp [go_sem,z_wpp,l_wpp] at zz)|(simp [go_sem] at zz));(try clear x_wpp f_wpp);(try clear z_wpp);have z_wpp:=zz;clear zz;(try clear l_wpp);obtain ⟨x_wpp,f_wpp,l_wpp⟩:=bO z_wpp;have zz:=hQ hbw9 (b:=w.heap.size+1+1+1);(first|(simp [go_sem,z_wppp,l_wppp] at zz)|(simp [go_sem] at zz));(try clear x_wppp f_wppp);(try clear z_wppp);have z_wppp:=zz;clear zz;(try clear l_wppp);obtain ⟨x_wppp,f_wppp,l_wppp⟩:=bO z_wppp
        rw [hc2]
        go_wp2_with fail
        refine (handOk_any h2 _).mono ?_
        rintro _ w10 ⟨rfl,hbw10⟩
        have hCw10:Below w.heap.size w w10:=bT (by exact zB) hbw10
        have hKw10:Below w8.heap.size w8 w10:=bT (by exact zB) hbw10
        have hsw10:=hbw10.size;(try (simp at hsw10));have zz:=hQ hbw10 (b:=gc);(first|(simp [go_sem,z_gc,l_gc] at zz)|(simp [go_sem] at zz));(try clear x_gc f_gc);(try clear z_gc);have z_gc:=zz;clear zz;(try clear l_gc);obtain ⟨x_gc,f_gc,l_gc⟩:=bO z_gc;have zz:=hQ hbw10 (b:=gh);(first|(simp [go_sem,z_gh,l_gh] at zz)|(simp [go_sem] at zz));(try clear x_gh f_gh);(try clear z_gh);have z_gh:=zz;clear zz;(try clear l_gh);obtain ⟨x_gh,f_gh,l_gh⟩:=bO z_gh;have zz:=hQ hbw10 (b:=w.heap.size+1+1);(first|(simp [go_sem,z_wpp,l_wpp] at zz)|(simp [go_sem] at zz));(try clear x_wpp f_wpp);(try clear z_wpp);have z_wpp:=zz;clear zz;(try clear l_wpp);obtain ⟨x_wpp,f_wpp,l_wpp⟩:=bO z_wpp;have zz:=hQ hbw10 (b:=w.heap.size+1+1+1);(first|(simp [go_sem,z_wppp,l_wppp] at zz)|(simp [go_sem] at zz));(try clear x_wppp f_wppp);(try clear z_wppp);have z_wppp:=zz;clear zz;(try clear l_wppp);obtain ⟨x_wppp,f_wppp,l_wppp⟩:=bO z_wppp
        rw [hh2]
        have r1:=own_below oX1 hKw10
        have r2:=own_below oX2 hKw10
        go_wp2_with fail
        refine (T.out _).mono ?_
        rintro _ w11 ⟨⟨y1,y2,rfl,oY1,oY2,fY1,fY2⟩,hbw11⟩
        have hCw11:Below w.heap.size w w11:=bT (by exact zB) hbw11
        have hsw11:=hbw11.size;(try (simp at hsw11));have zz:=hQ hbw11 (b:=w.heap.size+1+1);(first|(simp [go_sem,z_wpp,l_wpp] at zz)|(simp [go_sem] at zz));(try clear x_wpp f_wpp);(try clear z_wpp);have z_wpp:=zz;clear zz;(try clear l_wpp);obtain ⟨x_wpp,f_wpp,l_wpp⟩:=bO z_wpp;have zz:=hQ hbw11 (b:=w.heap.size+1+1+1);(first|(simp [go_sem,z_wppp,l_wppp] at zz)|(simp [go_sem] at zz));(try clear x_wppp f_wppp);(try clear z_wppp);have z_wppp:=zz;clear zz;(try clear l_wppp);obtain ⟨x_wppp,f_wppp,l_wppp⟩:=bO z_wppp
        have hoff1:∀ j,w.heap.size≤j→j<w.heap.size+1+1+1+1→y1.ownBlock≠some j:=fun j _ h2=>fY1.off2 d1 h2 (by (try simp) <;> omega);have hoff2:∀ j,w.heap.size≤j→j<w.heap.size+1+1+1+1→y2.ownBlock≠some j:=fun j _ h2=>fY2.off2 d2 h2 (by (try simp) <;> omega);have fr1:Fresh w (.slice none 0 0) y1:=fun j hj=>.inr (fY1.up d1 (by (try simp) <;> omega) (by (try simp) <;> omega) j hj);have fr2:Fresh w (.slice none 0 0) y2:=fun j hj=>.inr (fY2.up d2 (by (try simp) <;> omega) (by (try simp) <;> omega) j hj);obtain ⟨ya,yp,rfl,_⟩:=oY1.seg;obtain ⟨yb,yq,rfl,_⟩:=oY2.seg
        go_wp2
        refine bodyPost_ret (res_cct Try.results31 rfl (ldChan X.1 (.slice ya X.1.cells.length yp) (.slice yb X.1.words.length yq) (by simp [go_sem, *])) rfl (ldHand X.2.1 (by simp [go_sem, *]))) rfl ⟨⟨_,_,rfl,?_,?_,fr1,fr2⟩,by exact zB⟩
        · exact zP oY1 oY1 hoff1
        · exact zP oY2 oY2 hoff2
      | true =>
        have E:=Lib.hid (hXe.trans (show fin7 (c2,h2,ok)=(c2,h2,ok) by simp [fin7,hc2,hh2]))
        clear hXe
        go_wp2_with fail
        refine (iChanOk_any c2 ya yb yp yq _ ((K1.out.below (by exact zB)).more (by (try simp) <;> omega)) ((K2.out.below (by exact zB)).more (by (try simp) <;> omega)) L1 L2).mono ?_
        rintro _ w9 ⟨rfl,hbw9⟩
        have hCw9:Below w.heap.size w w9:=bT (by exact zB) hbw9
        have hKw9:Below w8.heap.size w8 w9:=bT (by exact zB) hbw9
        have hsw9:=hbw9.size;(try (simp at hsw9));have zz:=hQ hbw9 (b:=gc);(first|(simp [go_sem,z_gc,l_gc] at zz)|(simp [go_sem] at zz));(try clear x_gc f_gc);(try clear z_gc);have z_gc:=zz;clear zz;(try clear l_gc);obtain ⟨x_gc,f_gc,l_gc⟩:=bO z_gc;have zz:=hQ hbw9 (b:=gh);(first|(simp [go_sem,z_gh,l_gh] at zz)|(simp [go_sem] at zz));(try clear x_gh f_gh);(try clear z_gh);have z_gh:=zz;clear zz;(try clear l_gh);obtain ⟨x_gh,f_gh,l_gh⟩:=bO z_gh;have zz:=hQ hbw9 (b:=w.heap.size+1+1);(first|(simp [go_sem,z_wpp,l_wpp] at zz)|(simp [go_sem] at zz));(try clear x_wpp f_wpp);(try clear z_wpp);have z_wpp:=zz;clear zz;(try clear l_wpp);obtain ⟨x_wpp,f_wpp,l_wpp⟩:=bO z_wpp;have zz:=hQ hbw9 (b:=w.heap.size+1+1+1);(first|(simp [go_sem,z_wppp,l_wppp] at zz)|(simp [go_sem] at zz));(try clear x_wppp f_wppp);(try clear z_wppp);have z_wppp:=zz;clear zz;(try clear l_wppp);obtain ⟨x_wppp,f_wppp,l_wppp⟩:=bO z_wppp
        rw [hc2]
        go_wp2_with fail
        refine (handOk_any h2 _).mono ?_
        rintro _ w10 ⟨rfl,hbw10⟩
        have hCw10:Below w.heap.size w w10:=bT (by exact zB) hbw10
        have hKw10:Below w8.heap.size w8 w10:=bT (by exact zB) hbw10
        have hsw10:=hbw10.size;(try (simp at hsw10));have zz:=hQ hbw10 (b:=gc);(first|(simp [go_sem,z_gc,l_gc] at zz)|(simp [go_sem] at zz));(try clear x_gc f_gc);(try clear z_gc);have z_gc:=zz;clear zz;(try clear l_gc);obtain ⟨x_gc,f_gc,l_gc⟩:=bO z_gc;have zz:=hQ hbw10 (b:=gh);(first|(simp [go_sem,z_gh,l_gh] at zz)|(simp [go_sem] at zz));(try clear x_gh f_gh);(try clear z_gh);have z_gh:=zz;clear zz;(try clear l_gh);obtain ⟨x_gh,f_gh,l_gh⟩:=bO z_gh;have zz:=hQ hbw10 (b:=w.heap.size+1+1);(first|(simp [go_sem,z_wpp,l_wpp] at zz)|(simp [go_sem] at zz));(try clear x_wpp f_wpp);(try clear z_wpp);have z_wpp:=zz;clear zz;(try clear l_wpp);obtain ⟨x_wpp,f_wpp,l_wpp⟩:=bO z_wpp;have zz:=hQ hbw10 (b:=w.heap.size+1+1+1);(first|(simp [go_sem,z_wppp,l_wppp] at zz)|(simp [go_sem] at zz));(try clear x_wppp f_wppp);(try clear z_wppp);have z_wppp:=zz;clear zz;(try clear l_wppp);obtain ⟨x_wppp,f_wppp,l_wppp⟩:=bO z_wppp
        rw [hh2]
        have r1:=own_below oX1 hKw10
        have r2:=own_below oX2 hKw10
        go_wp2_with fail
        go_region
        go_wp2
        refine bodyPost_ret (res_cct Try.results31 rfl (ldChan c2 (.slice ya c2.cells.length yp) (.slice yb c2.words.length yq) (by simp [go_sem, *])) rfl (ldHand h2 (by simp [go_sem, *]))) rfl ⟨⟨.slice ya c2.cells.length yp,.slice yb c2.words.length yq,by rw [E.out];rfl,?_,?_,fun j hj=>.inr (by have:=(oX1.lt j hj).1;omega),fun j hj=>.inr (by have:=(oX2.lt j hj).1;omega)⟩,by exact zB⟩
        · rw [E.out]
          refine own_lo (lo:=w.heap.size+1+1+1+1) ?_ (by omega)
          exact zO r1 oX1
        · rw [E.out]
          refine own_lo (lo:=w.heap.size+1+1+1+1) ?_ (by omega)
          exact zO r2 oX2
  · intro l s wx hl hd hn hf0 K hK
    have hf:=Lib.hid hf0
    clear hf0
    go_simp
    refine hK.out (upd s 25 (.func (.func F) #[] #[])) _ _ (by simp [upd_at] <;> rfl) ⟨hf.out.1,fun _=>rfl,fun h=>(hf.out.2.2.1 h),fun h=>(hf.out.2.2.2.1 h),fun h=>(hf.out.2.2.2.2.1 h),fun h=>absurd h (by rw [show upd l 0 true 4=l 4 from rfl,hn 4 rfl];exact Bool.false_ne_true),fun h=>absurd h (by rw [show upd l 0 true 5=l 5 from rfl,hn 5 rfl];exact Bool.false_ne_true),fun h=>absurd h (by rw [show upd l 0 true 6=l 6 from rfl,hn 6 rfl];exact Bool.false_ne_true),fun h=>absurd h (by rw [show upd l 0 true 7=l 7 from rfl,hn 7 rfl];exact Bool.false_ne_true),fun h=>absurd h (by rw [show upd l 0 true 8=l 8 from rfl,hn 8 rfl];exact Bool.false_ne_true),fun h=>(hf.out.2.2.2.2.2.2.2.2.2.2.1 h),fun h=>(hf.out.2.2.2.2.2.2.2.2.2.2.2.1 h),fun h=>absurd h (by rw [show upd l 0 true 13=l 13 from rfl,hn 13 rfl];exact Bool.false_ne_true)⟩
  · intro l s wx hl hd hn hf0 K hK
    have hf:=Lib.hid hf0
    clear hf0
    have z:=hpS z_w hf.out.1
    go_simp
    refine hK.out (upd s 26 (.agg (cvals c (.slice a c.cells.length p) (.slice b c.words.length q)))) _ _ (by simp [upd_at] <;> rfl) ⟨hf.out.1,fun h=>(hf.out.2.1 h),fun _=>rfl,fun h=>absurd h (by rw [show upd l 1 true 2=l 2 from rfl,hn 2 rfl];exact Bool.false_ne_true),fun h=>(hf.out.2.2.2.2.1 h),fun h=>absurd h (by rw [show upd l 1 true 4=l 4 from rfl,hn 4 rfl];exact Bool.false_ne_true),fun h=>absurd h (by rw [show upd l 1 true 5=l 5 from rfl,hn 5 rfl];exact Bool.false_ne_true),fun h=>absurd h (by rw [show upd l 1 true 6=l 6 from rfl,hn 6 rfl];exact Bool.false_ne_true),fun h=>absurd h (by rw [show upd l 1 true 7=l 7 from rfl,hn 7 rfl];exact Bool.false_ne_true),fun h=>absurd h (by rw [show upd l 1 true 8=l 8 from rfl,hn 8 rfl];exact Bool.false_ne_true),fun h=>(hf.out.2.2.2.2.2.2.2.2.2.2.1 h),fun h=>(hf.out.2.2.2.2.2.2.2.2.2.2.2.1 h),fun h=>absurd h (by rw [show upd l 1 true 13=l 13 from rfl,hn 13 rfl];exact Bool.false_ne_true)⟩
  · intro l s wx hl hd hn hf0 K hK
    have hf:=Lib.hid hf0
    clear hf0
    have e1:=(hf.out.2.2.1 (hd 1 rfl))
    go_simp
    go_at_call 58
    refine (iCopied_any c a b p q _ ((H1.out.below (bT hCw2 hf.out.1)).more (Below.size (bT hCw2 hf.out.1))) Z1.out ((H2.out.below (bT hCw2 hf.out.1)).more (Below.size (bT hCw2 hf.out.1))) Z2.out m1 m2).mono ?_
    rintro _ wy ⟨⟨v1,v2,rfl,X1,X2⟩,hE⟩
    refine hK.out (upd (upd (upd s 1001 (v1)) 1002 (v2)) 27 (.agg (cvals c v1 v2))) _ _ (by simp [upd_at,e1] <;> rfl) ⟨bT hf.out.1 hE,fun h=>(hf.out.2.1 h),fun h=>(hf.out.2.2.1 h),fun _ _=>⟨rfl,own_lo X1 (Below.size hf.out.1),own_lo X2 (Below.size hf.out.1)⟩,fun h=>(hf.out.2.2.2.2.1 h),fun h=>absurd h (by rw [show upd l 2 true 4=l 4 from rfl,hn 4 rfl];exact Bool.false_ne_true),fun h=>absurd h (by rw [show upd l 2 true 5=l 5 from rfl,hn 5 rfl];exact Bool.false_ne_true),fun h=>absurd h (by rw [show upd l 2 true 6=l 6 from rfl,hn 6 rfl];exact Bool.false_ne_true),fun h=>absurd h (by rw [show upd l 2 true 7=l 7 from rfl,hn 7 rfl];exact Bool.false_ne_true),fun h=>absurd h (by rw [show upd l 2 true 8=l 8 from rfl,hn 8 rfl];exact Bool.false_ne_true),fun h=>IsBox.below (hf.out.2.2.2.2.2.2.2.2.2.2.1 h) hE,fun h=>IsBox.below (hf.out.2.2.2.2.2.2.2.2.2.2.2.1 h) hE,fun h=>absurd h (by rw [show upd l 2 true 13=l 13 from rfl,hn 13 rfl];exact Bool.false_ne_true)⟩
  · intro l s wx hl hd hn hf0 K hK
    have hf:=Lib.hid hf0
    clear hf0
    have z:=hpS z_wp hf.out.1
    go_simp
    refine hK.out (upd s 28 (.agg (hvals h))) _ _ (by simp [upd_at] <;> rfl) ⟨hf.out.1,fun h=>(hf.out.2.1 h),fun h=>(hf.out.2.2.1 h),fun h=>(hf.out.2.2.2.1 h),fun _=>rfl,fun h=>absurd h (by rw [show upd l 3 true 4=l 4 from rfl,hn 4 rfl];exact Bool.false_ne_true),fun h=>absurd h (by rw [show upd l 3 true 5=l 5 from rfl,hn 5 rfl];exact Bool.false_ne_true),fun h=>absurd h (by rw [show upd l 3 true 6=l 6 from rfl,hn 6 rfl];exact Bool.false_ne_true),fun h=>absurd h (by rw [show upd l 3 true 7=l 7 from rfl,hn 7 rfl];exact Bool.false_ne_true),fun h=>absurd h (by rw [show upd l 3 true 8=l 8 from rfl,hn 8 rfl];exact Bool.false_ne_true),fun h=>(hf.out.2.2.2.2.2.2.2.2.2.2.1 h),fun h=>(hf.out.2.2.2.2.2.2.2.2.2.2.2.1 h),fun h=>absurd h (by rw [show upd l 3 true 13=l 13 from rfl,hn 13 rfl];exact Bool.false_ne_true)⟩
  · intro l s wx hl hd hn hf0 K hK
    have hf:=Lib.hid hf0
    clear hf0
    have e0:=(hf.out.2.1 (hd 0 rfl))
    have e3:=(hf.out.2.2.2.2.1 (hd 3 rfl))
    obtain ⟨e2,o1,o2⟩:=(hf.out.2.2.2.1 (hd 2 rfl)) hl
    go_simp
    refine (HFF.out _ _ w2.heap.size _ o1 o2 (Below.size hf.out.1)).mono ?_
    rintro _ wy ⟨⟨y1,y2,rfl,X1,X2,_,_⟩,hO⟩
    refine hK.out (upd (upd (upd s 1003 (y1)) 1004 (y2)) 29 (.tuple #[.agg (cvals x.1 y1 y2),.agg (hvals x.2.1),.bool x.2.2])) _ _ (by simp [upd_at,e0,e3,e2] <;> rfl) ⟨bOnl hf.out.1 hO (fun j hj=>(o1.lt j hj).1) (fun j hj=>(o2.lt j hj).1),fun h=>(hf.out.2.1 h),fun h=>(hf.out.2.2.1 h),fun _ h4=>absurd h4 (by rw [show upd l 4 true 4=true from rfl];decide),fun h=>(hf.out.2.2.2.2.1 h),fun _=>⟨rfl,X1,X2⟩,fun h=>absurd h (by rw [show upd l 4 true 5=l 5 from rfl,hn 5 rfl];exact Bool.false_ne_true),fun h=>absurd h (by rw [show upd l 4 true 6=l 6 from rfl,hn 6 rfl];exact Bool.false_ne_true),fun h=>absurd h (by rw [show upd l 4 true 7=l 7 from rfl,hn 7 rfl];exact Bool.false_ne_true),fun h=>absurd h (by rw [show upd l 4 true 8=l 8 from rfl,hn 8 rfl];exact Bool.false_ne_true),fun h=>by (have ee:l 11=false:=hn 11 rfl);(have F:=hf.out.2.2.2.2.2.2.2.2.2.2.1 h);rw [ee] at F;rw [show upd l 4 true 11=false from ee];exact F.onl hO o1 o2 (by decide) (by decide),fun h=>by (have ee:l 12=false:=hn 12 rfl);(have F:=hf.out.2.2.2.2.2.2.2.2.2.2.2.1 h);rw [ee] at F;rw [show upd l 4 true 12=false from ee];exact F.onl hO o1 o2 (by decide) (by decide),fun h=>absurd h (by rw [show upd l 4 true 13=l 13 from rfl,hn 13 rfl];exact Bool.false_ne_true)⟩
  · intro l s wx hl hd hn hf0 K hK
    have hf:=Lib.hid hf0
    clear hf0
    have e4:=(hf.out.2.2.2.2.2.1 (hd 4 rfl)).1
    go_simp
    refine hK.out (upd s 24 (.tuple #[.agg (cvals x.1 (s 1003) (s 1004)),.agg (hvals x.2.1),.bool x.2.2])) _ _ (by simp [upd_at,e4] <;> rfl) ⟨hf.out.1,fun h=>(hf.out.2.1 h),fun h=>(hf.out.2.2.1 h),fun h=>(hf.out.2.2.2.1 h),fun h=>(hf.out.2.2.2.2.1 h),fun h=>(hf.out.2.2.2.2.2.1 h),fun _=>rfl,fun h=>absurd h (by rw [show upd l 5 true 6=l 6 from rfl,hn 6 rfl];exact Bool.false_ne_true),fun h=>absurd h (by rw [show upd l 5 true 7=l 7 from rfl,hn 7 rfl];exact Bool.false_ne_true),fun h=>absurd h (by rw [show upd l 5 true 8=l 8 from rfl,hn 8 rfl];exact Bool.false_ne_true),fun h=>(hf.out.2.2.2.2.2.2.2.2.2.2.1 h),fun h=>(hf.out.2.2.2.2.2.2.2.2.2.2.2.1 h),fun h=>absurd h (by rw [show upd l 5 true 13=l 13 from rfl,hn 13 rfl];exact Bool.false_ne_true)⟩
  · intro l s wx hl hd hn hf0 K hK
    have hf:=Lib.hid hf0
    clear hf0
    have e5:=(hf.out.2.2.2.2.2.2.1 (hd 5 rfl))
    go_simp
    refine hK.out (upd s 30 (.agg (cvals x.1 (s 1003) (s 1004)))) _ _ (by simp [upd_at,e5] <;> rfl) ⟨hf.out.1,fun h=>(hf.out.2.1 h),fun h=>(hf.out.2.2.1 h),fun h=>(hf.out.2.2.2.1 h),fun h=>(hf.out.2.2.2.2.1 h),fun h=>(hf.out.2.2.2.2.2.1 h),fun h=>(hf.out.2.2.2.2.2.2.1 h),fun _=>rfl,fun h=>(hf.out.2.2.2.2.2.2.2.2.1 h),fun h=>(hf.out.2.2.2.2.2.2.2.2.2.1 h),fun h=>(hf.out.2.2.2.2.2.2.2.2.2.2.1 h),fun h=>(hf.out.2.2.2.2.2.2.2.2.2.2.2.1 h),fun h=>(hf.out.2.2.2.2.2.2.2.2.2.2.2.2 h)⟩
  · intro l s wx hl hd hn hf0 K hK
    have hf:=Lib.hid hf0
    clear hf0
    have e5:=(hf.out.2.2.2.2.2.2.1 (hd 5 rfl))
    go_simp
    refine hK.out (upd s 31 (.agg (hvals x.2.1))) _ _ (by simp [upd_at,e5] <;> rfl) ⟨hf.out.1,fun h=>(hf.out.2.1 h),fun h=>(hf.out.2.2.1 h),fun h=>(hf.out.2.2.2.1 h),fun h=>(hf.out.2.2.2.2.1 h),fun h=>(hf.out.2.2.2.2.2.1 h),fun h=>(hf.out.2.2.2.2.2.2.1 h),fun h=>(hf.out.2.2.2.2.2.2.2.1 h),fun _=>rfl,fun h=>(hf.out.2.2.2.2.2.2.2.2.2.1 h),fun h=>(hf.out.2.2.2.2.2.2.2.2.2.2.1 h),fun h=>(hf.out.2.2.2.2.2.2.2.2.2.2.2.1 h),fun h=>(hf.out.2.2.2.2.2.2.2.2.2.2.2.2 h)⟩
  · intro l s wx hl hd hn hf0 K hK
    have hf:=Lib.hid hf0
    clear hf0
    have e5:=(hf.out.2.2.2.2.2.2.1 (hd 5 rfl))
    go_simp
    refine hK.out (upd s 32 (.bool x.2.2)) _ _ (by simp [upd_at,e5] <;> rfl) ⟨hf.out.1,fun h=>(hf.out.2.1 h),fun h=>(hf.out.2.2.1 h),fun h=>(hf.out.2.2.2.1 h),fun h=>(hf.out.2.2.2.2.1 h),fun h=>(hf.out.2.2.2.2.2.1 h),fun h=>(hf.out.2.2.2.2.2.2.1 h),fun h=>(hf.out.2.2.2.2.2.2.2.1 h),fun h=>(hf.out.2.2.2.2.2.2.2.2.1 h),fun _=>rfl,fun h=>(hf.out.2.2.2.2.2.2.2.2.2.2.1 h),fun h=>(hf.out.2.2.2.2.2.2.2.2.2.2.2.1 h),fun h=>absurd h (by rw [show upd l 8 true 13=l 13 from rfl,hn 13 rfl];exact Bool.false_ne_true)⟩
  · intro l s wx hl hd hn hf0 K hK
    have hf:=Lib.hid hf0
    clear hf0
    go_simp
    refine hK.out (upd s 9 (.pointer (some ⟨wx.heap.size,0,none⟩))) _ _ (by simp [upd_at] <;> rfl) ⟨bT hf.out.1 (belowAlloc _ _),fun h=>(hf.out.2.1 h),fun h=>(hf.out.2.2.1 h),fun h=>fun h4=>(let ⟨e,X1,X2⟩:=(hf.out.2.2.2.1 h) h4;⟨e,own_below X1 (belowAlloc _ _),own_below X2 (belowAlloc _ _)⟩),fun h=>(hf.out.2.2.2.2.1 h),fun h=>(let ⟨e,X1,X2⟩:=(hf.out.2.2.2.2.2.1 h);⟨e,own_below X1 (belowAlloc _ _),own_below X2 (belowAlloc _ _)⟩),fun h=>(hf.out.2.2.2.2.2.2.1 h),fun h=>(hf.out.2.2.2.2.2.2.2.1 h),fun h=>(hf.out.2.2.2.2.2.2.2.2.1 h),fun h=>(hf.out.2.2.2.2.2.2.2.2.2.1 h),fun _=>by rw [show upd l 9 true 11=false from hn 11 rfl];exact IsBox.new (Below.size hf.out.1),fun h=>IsBox.below (hf.out.2.2.2.2.2.2.2.2.2.2.2.1 h) (belowAlloc _ _),fun h=>(hf.out.2.2.2.2.2.2.2.2.2.2.2.2 h)⟩
  · intro l s wx hl hd hn hf0 K hK
    have hf:=Lib.hid hf0
    clear hf0
    go_simp
    refine hK.out (upd s 10 (.pointer (some ⟨wx.heap.size,0,none⟩))) _ _ (by simp [upd_at] <;> rfl) ⟨bT hf.out.1 (belowAlloc _ _),fun h=>(hf.out.2.1 h),fun h=>(hf.out.2.2.1 h),fun h=>fun h4=>(let ⟨e,X1,X2⟩:=(hf.out.2.2.2.1 h) h4;⟨e,own_below X1 (belowAlloc _ _),own_below X2 (belowAlloc _ _)⟩),fun h=>(hf.out.2.2.2.2.1 h),fun h=>(let ⟨e,X1,X2⟩:=(hf.out.2.2.2.2.2.1 h);⟨e,own_below X1 (belowAlloc _ _),own_below X2 (belowAlloc _ _)⟩),fun h=>(hf.out.2.2.2.2.2.2.1 h),fun h=>(hf.out.2.2.2.2.2.2.2.1 h),fun h=>(hf.out.2.2.2.2.2.2.2.2.1 h),fun h=>(hf.out.2.2.2.2.2.2.2.2.2.1 h),fun h=>IsBox.below (hf.out.2.2.2.2.2.2.2.2.2.2.1 h) (belowAlloc _ _),fun _=>by rw [show upd l 10 true 12=false from hn 12 rfl];exact IsBox.new (Below.size hf.out.1),fun h=>(hf.out.2.2.2.2.2.2.2.2.2.2.2.2 h)⟩
  · intro l s wx hl hd hn hf0 K hK
    have hf:=Lib.hid hf0
    clear hf0
    have e6:=(hf.out.2.2.2.2.2.2.2.1 (hd 6 rfl))
    have e4:=(hf.out.2.2.2.2.2.1 (hd 4 rfl))
    have X1:=e4.2.1
    have X2:=e4.2.2
    clear e4
    obtain ⟨bb,eb,hlo,zb⟩:=(hf.out.2.2.2.2.2.2.2.2.2.2.1 (hd 9 rfl))
    rw [hl] at zb
    dsimp only [cond] at zb
    obtain ⟨xa,xp,ea,_⟩:=X1.seg
    obtain ⟨xb,xq,eb2,_⟩:=X2.seg
    rw [ea,eb2] at e6
    have zn:hp (setBox wx bb (cvals x.1 (.slice xa x.1.cells.length xp) (.slice xb x.1.words.length xq))) bb=some (.cells (cvals x.1 (s 1003) (s 1004)) 33):=by rw [ea,eb2];exact hp_set zb
    go_simp
    refine hK.out (s) _ _ (by simp [upd_at,eb,e6,ea,eb2] <;> rfl) ⟨bBx hf.out.1 hlo,fun h=>(hf.out.2.1 h),fun h=>(hf.out.2.2.1 h),fun _ h4=>absurd ((hd 4 rfl).symm.trans h4) (by decide),fun h=>(hf.out.2.2.2.2.1 h),fun h=>⟨(hf.out.2.2.2.2.2.1 h).1,own_far (hf.out.2.2.2.2.2.1 h).2.1 zb (by decide),own_far (hf.out.2.2.2.2.2.1 h).2.2 zb (by decide)⟩,fun h=>(hf.out.2.2.2.2.2.2.1 h),fun h=>(hf.out.2.2.2.2.2.2.2.1 h),fun h=>(hf.out.2.2.2.2.2.2.2.2.1 h),fun h=>(hf.out.2.2.2.2.2.2.2.2.2.1 h),fun _=>⟨bb,eb,hlo,zn⟩,fun h=>IsBox.far (hf.out.2.2.2.2.2.2.2.2.2.2.2.1 h) zb (by decide),fun h=>(hf.out.2.2.2.2.2.2.2.2.2.2.2.2 h)⟩
  · intro l s wx hl hd hn hf0 K hK
    have hf:=Lib.hid hf0
    clear hf0
    have e7:=(hf.out.2.2.2.2.2.2.2.2.1 (hd 7 rfl))
    have e4:=(hf.out.2.2.2.2.2.1 (hd 4 rfl))
    have X1:=e4.2.1
    have X2:=e4.2.2
    clear e4
    obtain ⟨bb,eb,hlo,zb⟩:=(hf.out.2.2.2.2.2.2.2.2.2.2.2.1 (hd 10 rfl))
    rw [hl] at zb
    dsimp only [cond] at zb
    have zn:hp (setBox wx bb (hvals x.2.1)) bb=some (.cells (hvals x.2.1) 36):=by exact hp_set zb
    go_simp
    refine hK.out (s) _ _ (by simp [upd_at,eb,e7] <;> rfl) ⟨bBx hf.out.1 hlo,fun h=>(hf.out.2.1 h),fun h=>(hf.out.2.2.1 h),fun _ h4=>absurd ((hd 4 rfl).symm.trans h4) (by decide),fun h=>(hf.out.2.2.2.2.1 h),fun h=>⟨(hf.out.2.2.2.2.2.1 h).1,own_far (hf.out.2.2.2.2.2.1 h).2.1 zb (by decide),own_far (hf.out.2.2.2.2.2.1 h).2.2 zb (by decide)⟩,fun h=>(hf.out.2.2.2.2.2.2.1 h),fun h=>(hf.out.2.2.2.2.2.2.2.1 h),fun h=>(hf.out.2.2.2.2.2.2.2.2.1 h),fun h=>(hf.out.2.2.2.2.2.2.2.2.2.1 h),fun h=>IsBox.far (hf.out.2.2.2.2.2.2.2.2.2.2.1 h) zb (by decide),fun _=>⟨bb,eb,hlo,zn⟩,fun h=>(hf.out.2.2.2.2.2.2.2.2.2.2.2.2 h)⟩
  · intro l s wx hl hd hn hf0 K hK
    have hf:=Lib.hid hf0
    clear hf0
    have e8:=(hf.out.2.2.2.2.2.2.2.2.2.1 (hd 8 rfl))
    go_simp
    refine hK.out (upd s 11 (.bool x.2.2)) _ _ (by simp [upd_at,e8] <;> rfl) ⟨hf.out.1,fun h=>(hf.out.2.1 h),fun h=>(hf.out.2.2.1 h),fun h=>(hf.out.2.2.2.1 h),fun h=>(hf.out.2.2.2.2.1 h),fun h=>(hf.out.2.2.2.2.2.1 h),fun h=>(hf.out.2.2.2.2.2.2.1 h),fun h=>(hf.out.2.2.2.2.2.2.2.1 h),fun h=>(hf.out.2.2.2.2.2.2.2.2.1 h),fun h=>(hf.out.2.2.2.2.2.2.2.2.2.1 h),fun h=>(hf.out.2.2.2.2.2.2.2.2.2.2.1 h),fun h=>(hf.out.2.2.2.2.2.2.2.2.2.2.2.1 h),fun _=>rfl⟩
set_option maxRecDepth 100000 in
set_option maxHeartbeats 4000000 in
theorem touched_no1 (F:Nat) (c:Ch) (h:Ha) (a b:Option Addr) (p q:Nat) (w:World) (h1:Seg w w.heap.size a c.cells.length 3 (cellF c.cells)) (z1:a=none→p=0) (h2:Seg w w.heap.size b c.words.length 1 (intF c.words)) (z2:b=none→q=0) (l1:c.cells.length≤maxLen) (l2:c.words.length≤maxLen) (hc:chanOk c=false) :
    Calls Try.prog 31 #[.func (.func F) #[] #[],.agg (cvals c (.slice a c.cells.length p) (.slice b c.words.length q)),.agg (hvals h)] w fun r w'=>StepN w w' nothing r:=by
  have H1:=Lib.hid h1
  have H2:=Lib.hid h2
  have T:=Lib.hid fun W=>refused_any W w.heap.size (.slice none 0 0) (.slice none 0 0)
  generalize nothing=x at *
  clear h1 h2 z1 z2
  have d1:∀ j,(Value.slice none 0 0).ownBlock=some j→w.heap.size+1+1+1+1≤j:=fun j hj=>by cases hj
  have d2:=d1
  go_enter Try.func31,Try.ntmps31
  go_wp2_with fail;refine bHit w (by exact zB) fun bb=>?_;refine (iChanOk_any c a b p q _ ((H1.out.below bb).more bb.size) ((H2.out.below bb).more bb.size) l1 l2).mono ?_;rintro _ w1 ⟨rfl,hbw1⟩;have hCw1:Below w.heap.size w w1:=bT bb hbw1;have hsw1:=hbw1.size;(try simp at hsw1);have zz:=q4 hbw1 (b:=w.heap.size);(try simp [go_sem] at zz);(try clear z_wppp x_wppp f_wppp l_wppp);(try clear z_wpp x_wpp f_wpp l_wpp);(try clear z_wp x_wp f_wp l_wp);(try clear z_w x_w f_w l_w);obtain ⟨z_wppp,z_wpp,z_wp,z_w⟩:=zz;obtain ⟨x_wppp,f_wppp,l_wppp⟩:=bO z_wppp;obtain ⟨x_wpp,f_wpp,l_wpp⟩:=bO z_wpp;obtain ⟨x_wp,f_wp,l_wp⟩:=bO z_wp;obtain ⟨x_w,f_w,l_w⟩:=bO z_w;clear hbw1 bb
  rw [hc]
  go_wp2_with fail;refine bHit w (by exact zB) fun bb=>?_;refine (T.out _).mono ?_;rintro _ w9 ⟨⟨y1,y2,rfl,oY1,oY2,fY1,fY2⟩,hbw9⟩;have hCw9:Below w.heap.size w w9:=bT bb hbw9;have hsw9:=hbw9.size;(try simp at hsw9);have zz:=q4 hbw9 (b:=w.heap.size);(first|simp [go_sem,z_wppp,z_wpp,z_wp,z_w,l_w,l_wp,l_wpp,l_wppp] at zz|simp [go_sem] at zz|skip);(try clear z_wppp x_wppp f_wppp l_wppp);(try clear z_wpp x_wpp f_wpp l_wpp);(try clear z_wp x_wp f_wp l_wp);(try clear z_w x_w f_w l_w);obtain ⟨z_wppp,z_wpp,z_wp,z_w⟩:=zz;obtain ⟨x_wppp,f_wppp,l_wppp⟩:=bO z_wppp;obtain ⟨x_wpp,f_wpp,l_wpp⟩:=bO z_wpp;obtain ⟨x_wp,f_wp,l_wp⟩:=bO z_wp;obtain ⟨x_w,f_w,l_w⟩:=bO z_w;clear hbw9 bb
  have hoff1:∀ j,w.heap.size≤j→j<w.heap.size+1+1+1+1→y1.ownBlock≠some j:=fun j _ h2=>fY1.off2 d1 h2 (by (try simp) <;> omega);have hoff2:∀ j,w.heap.size≤j→j<w.heap.size+1+1+1+1→y2.ownBlock≠some j:=fun j _ h2=>fY2.off2 d2 h2 (by (try simp) <;> omega);have fr1:Fresh w (.slice none 0 0) y1:=fun j hj=>.inr (fY1.up d1 (by (try simp) <;> omega) (by (try simp) <;> omega) j hj);have fr2:Fresh w (.slice none 0 0) y2:=fun j hj=>.inr (fY2.up d2 (by (try simp) <;> omega) (by (try simp) <;> omega) j hj);obtain ⟨ya,yp,rfl,_⟩:=oY1.seg;obtain ⟨yb,yq,rfl,_⟩:=oY2.seg
  go_wp2
  refine bodyPost_ret (res_cct Try.results31 rfl (ldChan x.1 (.slice ya x.1.cells.length yp) (.slice yb x.1.words.length yq) (by simp [go_sem, *])) rfl (ldHand x.2.1 (by simp [go_sem, *]))) rfl ⟨⟨_,_,rfl,?_,?_,fr1,fr2⟩,by exact zB⟩
  · exact zP oY1 oY1 hoff1
  · exact zP oY2 oY2 hoff2
set_option maxRecDepth 100000 in
set_option maxHeartbeats 4000000 in
theorem touched_no2 (F:Nat) (c:Ch) (h:Ha) (a b:Option Addr) (p q:Nat) (w:World) (h1:Seg w w.heap.size a c.cells.length 3 (cellF c.cells)) (z1:a=none→p=0) (h2:Seg w w.heap.size b c.words.length 1 (intF c.words)) (z2:b=none→q=0) (l1:c.cells.length≤maxLen) (l2:c.words.length≤maxLen) (hc:chanOk c=true) (hh:handOk h=false) :
    Calls Try.prog 31 #[.func (.func F) #[] #[],.agg (cvals c (.slice a c.cells.length p) (.slice b c.words.length q)),.agg (hvals h)] w fun r w'=>StepN w w' nothing r:=by
  have H1:=Lib.hid h1
  have H2:=Lib.hid h2
  have T:=Lib.hid fun W=>refused_any W w.heap.size (.slice none 0 0) (.slice none 0 0)
  generalize nothing=x at *
  clear h1 h2 z1 z2
  have d1:∀ j,(Value.slice none 0 0).ownBlock=some j→w.heap.size+1+1+1+1≤j:=fun j hj=>by cases hj
  have d2:=d1
  go_enter Try.func31,Try.ntmps31
  go_wp2_with fail;refine bHit w (by exact zB) fun bb=>?_;refine (iChanOk_any c a b p q _ ((H1.out.below bb).more bb.size) ((H2.out.below bb).more bb.size) l1 l2).mono ?_;rintro _ w1 ⟨rfl,hbw1⟩;have hCw1:Below w.heap.size w w1:=bT bb hbw1;have hsw1:=hbw1.size;(try simp at hsw1);have zz:=q4 hbw1 (b:=w.heap.size);(try simp [go_sem] at zz);(try clear z_wppp x_wppp f_wppp l_wppp);(try clear z_wpp x_wpp f_wpp l_wpp);(try clear z_wp x_wp f_wp l_wp);(try clear z_w x_w f_w l_w);obtain ⟨z_wppp,z_wpp,z_wp,z_w⟩:=zz;obtain ⟨x_wppp,f_wppp,l_wppp⟩:=bO z_wppp;obtain ⟨x_wpp,f_wpp,l_wpp⟩:=bO z_wpp;obtain ⟨x_wp,f_wp,l_wp⟩:=bO z_wp;obtain ⟨x_w,f_w,l_w⟩:=bO z_w;clear hbw1 bb
  rw [hc]
  go_wp2_with fail;refine bHit w (by exact zB) fun bb=>?_;refine (handOk_any h _).mono ?_;rintro _ w2 ⟨rfl,hbw2⟩;have hCw2:Below w.heap.size w w2:=bT bb hbw2;have hsw2:=hbw2.size;(try simp at hsw2);have zz:=q4 hbw2 (b:=w.heap.size);(first|simp [go_sem,z_wppp,z_wpp,z_wp,z_w,l_w,l_wp,l_wpp,l_wppp] at zz|simp [go_sem] at zz|skip);(try clear z_wppp x_wppp f_wppp l_wppp);(try clear z_wpp x_wpp f_wpp l_wpp);(try clear z_wp x_wp f_wp l_wp);(try clear z_w x_w f_w l_w);obtain ⟨z_wppp,z_wpp,z_wp,z_w⟩:=zz;obtain ⟨x_wppp,f_wppp,l_wppp⟩:=bO z_wppp;obtain ⟨x_wpp,f_wpp,l_wpp⟩:=bO z_wpp;obtain ⟨x_wp,f_wp,l_wp⟩:=bO z_wp;obtain ⟨x_w,f_w,l_w⟩:=bO z_w;clear hbw2 bb
  rw [hh]
  go_wp2_with fail;refine bHit w (by exact zB) fun bb=>?_;refine (T.out _).mono ?_;rintro _ w9 ⟨⟨y1,y2,rfl,oY1,oY2,fY1,fY2⟩,hbw9⟩;have hCw9:Below w.heap.size w w9:=bT bb hbw9;have hsw9:=hbw9.size;(try simp at hsw9);have zz:=q4 hbw9 (b:=w.heap.size);(first|simp [go_sem,z_wppp,z_wpp,z_wp,z_w,l_w,l_wp,l_wpp,l_wppp] at zz|simp [go_sem] at zz|skip);(try clear z_wppp x_wppp f_wppp l_wppp);(try clear z_wpp x_wpp f_wpp l_wpp);(try clear z_wp x_wp f_wp l_wp);(try clear z_w x_w f_w l_w);obtain ⟨z_wppp,z_wpp,z_wp,z_w⟩:=zz;obtain ⟨x_wppp,f_wppp,l_wppp⟩:=bO z_wppp;obtain ⟨x_wpp,f_wpp,l_wpp⟩:=bO z_wpp;obtain ⟨x_wp,f_wp,l_wp⟩:=bO z_wp;obtain ⟨x_w,f_w,l_w⟩:=bO z_w;clear hbw9 bb
  have hoff1:∀ j,w.heap.size≤j→j<w.heap.size+1+1+1+1→y1.ownBlock≠some j:=fun j _ h2=>fY1.off2 d1 h2 (by (try simp) <;> omega);have hoff2:∀ j,w.heap.size≤j→j<w.heap.size+1+1+1+1→y2.ownBlock≠some j:=fun j _ h2=>fY2.off2 d2 h2 (by (try simp) <;> omega);have fr1:Fresh w (.slice none 0 0) y1:=fun j hj=>.inr (fY1.up d1 (by (try simp) <;> omega) (by (try simp) <;> omega) j hj);have fr2:Fresh w (.slice none 0 0) y2:=fun j hj=>.inr (fY2.up d2 (by (try simp) <;> omega) (by (try simp) <;> omega) j hj);obtain ⟨ya,yp,rfl,_⟩:=oY1.seg;obtain ⟨yb,yq,rfl,_⟩:=oY2.seg
  go_wp2
  refine bodyPost_ret (res_cct Try.results31 rfl (ldChan x.1 (.slice ya x.1.cells.length yp) (.slice yb x.1.words.length yq) (by simp [go_sem, *])) rfl (ldHand x.2.1 (by simp [go_sem, *]))) rfl ⟨⟨_,_,rfl,?_,?_,fr1,fr2⟩,by exact zB⟩
  · exact zP oY1 oY1 hoff1
  · exact zP oY2 oY2 hoff2
end Go.Proofs.Ytajopaegmocnlaa
set_option linter.unusedSimpArgs false
set_option linter.unusedVariables false
namespace Go.Proofs.Ytajopaegmocnlaa
open Go.RowKit
set_option linter.unusedSimpArgs false
attribute [local simp] bx_size
attribute [local go_sem ↓] zeroHand zeroChan toLHand toLChan toVHand toVChan storeHand storeChan storeHandC storeChanC
def tbl:Array Value:=#[.nilFunc,.func (.func 84) #[] #[],.func (.func 85) #[] #[],.func (.func 86) #[] #[],.func (.func 87) #[] #[],.func (.func 88) #[] #[],.func (.func 89) #[] #[],.func (.func 90) #[] #[],.func (.func 91) #[] #[]]
set_option maxRecDepth 100000 in
set_option maxHeartbeats 2000000 in
theorem touches_any (w:World):Calls Try.prog 59 #[] w fun r w'=>r=.returned (.agg tbl)∧Below w.heap.size w w':=by
  go_enter Try.func59,Try.ntmps59
  go_wp2
  refine bodyPost_ret (v:=.agg tbl) (by simp [results,Try.results59,go_sem,tbl, *]) rfl ⟨rfl,by exact zB⟩
theorem funcNil (F:Nat) (w:World):(binOp .eql 80 (.func (.func F) #[] #[]) .nilFunc).run Try.prog w=.ok (.bool false) w:=by
  have u:=Try.underlying80
  simp only [binOp,Op.equal,Op.maxDepth]
  rw [show (10000:Nat)=9999+1 from rfl]
  generalize (9999:Nat)=d
  rw [Op.equalIn]
  simp [Sem.run_bind,run_underlying u,Result.andThen]
attribute [local go_sem ↓] funcNil
set_option maxRecDepth 100000 in
set_option maxHeartbeats 8000000 in
theorem sendTouch_via (F k:Nat) (x:St) (c:Ch) (h:Ha) (v1 v2:Value) (lo:Nat) (w:World) (h1:OCells w lo v1 c.cells) (h2:OInts w lo v2 c.words) (hlo:lo≤w.heap.size) (hk:h.code=1) (hpos:h.pos=(k:Int)) (hk9:k<9) (hfun:tbl[k]?=some (.func (.func F) #[] #[])) (eg:∀ args w,(callFunc F args).run Try.prog w=.ok (.enter F args) w) (HF:∀ (v1 v2:Value) (lo:Nat) (W:World),OCells W lo v1 c.cells→OInts W lo v2 c.words→lo≤W.heap.size→Calls Try.prog F #[.agg (cvals c v1 v2),.agg (hvals h)] W fun r w'=>StepO W w' lo v1 v2 x r) :
    Calls Try.prog 32 #[.agg (cvals c v1 v2),.agg (hvals h)] w fun r w'=>StepO w w' lo v1 v2 x r:=by
  have b1:=fun j (hj:v1.ownBlock=some j)=>(h1.lt j hj).2
  have b2:=fun j (hj:v2.ownBlock=some j)=>(h2.lt j hj).2
  obtain ⟨a1,q1,rfl,_⟩:=h1.seg
  obtain ⟨a2,q2,rfl,_⟩:=h2.seg
  have O1:=Lib.hid h1
  have O2:=Lib.hid h2
  clear h1 h2
  have hk1:(h.code != 1)=false:=by simp [hk]
  have hk0:(0:Int)≤(k:Int):=by omega
  have hk8:(k:Int)<9:=by omega
  have hk7:¬ (9:Int)≤(k:Int):=by omega
  clear hk
  have HFF:=Lib.hid HF
  have TT:=Lib.hid fun w=>touches_any w
  clear HF
  have o1:=O1.out
  have o2:=O2.out
  go_enter Try.func32,Try.ntmps32
  go_wp2_with fail;refine bHit w (by exact zB) fun bb=>?_;refine (TT.out _).mono ?_;rintro _ w1 ⟨rfl,hbw1⟩;have hCw1:Below w.heap.size w w1:=bT bb hbw1;have hsw1:=hbw1.size;(try simp at hsw1);have zz:=q4 hbw1 (b:=w.heap.size);(try simp [go_sem] at zz);(try clear z_wppp x_wppp f_wppp l_wppp);(try clear z_wpp x_wpp f_wpp l_wpp);(try clear z_wp x_wp f_wp l_wp);(try clear z_w x_w f_w l_w);obtain ⟨z_wppp,z_wpp,z_wp,z_w⟩:=zz;obtain ⟨x_wppp,f_wppp,l_wppp⟩:=bO z_wppp;obtain ⟨x_wpp,f_wpp,l_wpp⟩:=bO z_wpp;obtain ⟨x_wp,f_wp,l_wp⟩:=bO z_wp;obtain ⟨x_w,f_w,l_w⟩:=bO z_w;have hKw1:Below w.heap.size w w1:=hCw1;clear hbw1 bb
  have p1:=own_below o1 hKw1
  have p2:=own_below o2 hKw1
  unfold tbl
  go_upto_region 2 with fail
  generalize hw2:World.alloc w1 _=w2
  have zt:hp w2 w1.heap.size=some (.cells tbl 81):=by rw [← hw2];simp [go_sem,tbl]
  have hE:Below w1.heap.size w1 w2:=by rw [← hw2];exact belowAlloc _ _
  clear hw2
  have hO2:Onl (Value.slice a1 c.cells.length q1).ownBlock (Value.slice a2 c.words.length q2).ownBlock w w2:=onlB (bT hKw1 hE)
  have hS2:lo≤w2.heap.size:=Nat.le_trans hlo (bT hKw1 hE).size
  have hw3:w.heap.size+1+1+1<w1.heap.size:=l_wppp
  replace p1:=own_below p1 hE
  replace p2:=own_below p2 hE
  replace z_w:=hpS z_w hE
  replace z_wp:=hpS z_wp hE
  replace z_wpp:=hpS z_wpp hE
  replace z_wppp:=hpS z_wppp hE
  clear x_w f_w l_w x_wp f_wp l_wp x_wpp f_wpp l_wpp x_wppp f_wppp l_wppp o1 o2
  obtain ⟨x_t,f_t,l_t⟩:=bO zt
  obtain ⟨x_w,f_w,l_w⟩:=bO z_w
  obtain ⟨x_wp,f_wp,l_wp⟩:=bO z_wp
  have hq:=(x_t k).trans hfun
  clear x_t
  have hp0:w2.cell? ⟨w.heap.size+1,0,none⟩=some (.int .i64 k):=(x_wp 0).trans (by rw [hv_get0,hpos])
  go_upto_region 4 with fail
  refine wp_region_inv [[],[0],[0,1],[0,1,2],[],[],[0,1,2,3,4,5],[0,1,2,3,4,5,6],[0,1,2,3,4,5,6],[0,1,2,3,4,5,6],[0,1,2,3,4,5,6,7],[0,1,2,3,4,5,6,8],[0,1,2,3,4,5,6,9]] [29,30,31,32,33,34,35,36,37,38,6] (fun l s wx=>(Onl (Value.slice a1 c.cells.length q1).ownBlock (Value.slice a2 c.words.length q2).ownBlock w wx)∧(hp wx w.heap.size=some (.cells (cvals c (Value.slice a1 c.cells.length q1) (Value.slice a2 c.words.length q2)) 33))∧(hp wx (w.heap.size+1)=some (.cells (hvals h) 36))∧(hp wx w1.heap.size=some (.cells tbl 81))∧(hp wx (w.heap.size+1+1)=some (.cells (cond (l 10) (cvals x.1 (s 1003) (s 1004)) (cvals Ch.zero (.slice none 0 0) (.slice none 0 0))) 33))∧(hp wx (w.heap.size+1+1+1)=some (.cells (cond (l 11) (hvals x.2.1) (hvals Ha.zero)) 36))∧(l 6=false→OCells wx lo (Value.slice a1 c.cells.length q1) c.cells)∧(l 6=false→OInts wx lo (Value.slice a2 c.words.length q2) c.words)∧(lo≤wx.heap.size)∧(l 0=true→s 29=.pointer (some ⟨w.heap.size+1,0,none⟩))∧(l 1=true→s 30=.int .i64 k)∧(l 2=true→s 31=.pointer (some ⟨w1.heap.size,k,none⟩))∧(l 3=true→s 32=.func (.func F) #[] #[])∧(l 4=true→s 33=.agg (cvals c (Value.slice a1 c.cells.length q1) (Value.slice a2 c.words.length q2)))∧(l 5=true→s 34=.agg (hvals h))∧(l 6=true→s 35=.tuple #[.agg (cvals x.1 (s 1003) (s 1004)),.agg (hvals x.2.1),.bool x.2.2]∧OCells wx lo (s 1003) x.1.cells∧OInts wx lo (s 1004) x.1.words∧Fresh w (Value.slice a1 c.cells.length q1) (s 1003)∧Fresh w (Value.slice a2 c.words.length q2) (s 1004))∧(l 7=true→s 36=.agg (cvals x.1 (s 1003) (s 1004)))∧(l 8=true→s 37=.agg (hvals x.2.1))∧(l 9=true→s 38=.bool x.2.2)∧(l 12=true→s 6=.bool x.2.2)) (by kernel_rfl) (by kernel_rfl) (by kernel_rfl) (fun s=>by (simp only [fill,fillA,List.setIfInBounds_toArray,List.set_cons_zero,List.set_cons_succ];rfl)) (fun s=>⟨oD hO2,z_w,z_wp,zt,z_wpp,z_wppp,fun _=>oDr p1,fun _=>oDr p2,hS2,fun h=>absurd h Bool.false_ne_true,fun h=>absurd h Bool.false_ne_true,fun h=>absurd h Bool.false_ne_true,fun h=>absurd h Bool.false_ne_true,fun h=>absurd h Bool.false_ne_true,fun h=>absurd h Bool.false_ne_true,fun h=>absurd h Bool.false_ne_true,fun h=>absurd h Bool.false_ne_true,fun h=>absurd h Bool.false_ne_true,fun h=>absurd h Bool.false_ne_true,fun h=>absurd h Bool.false_ne_true⟩) ?_ ?_
  refine ⟨?_,?_,?_,?_,?_,?_,?_,?_,?_,?_,?_,?_,?_,trivial⟩;rotate_left 13
  · intro l s wx hall hf
    have hO:=hf.1
    have z1:=hf.2.2.2.2.1
    have z2:=hf.2.2.2.2.2.1
    rw [hall 10 rfl] at z1
    rw [hall 11 rfl] at z2
    dsimp only [cond] at z1 z2
    obtain ⟨_,X1,X2,F1,F2⟩:=(hf.2.2.2.2.2.2.2.2.2.2.2.2.2.2.2.1 (hall 6 rfl))
    have ec:=(hf.2.2.2.2.2.2.2.2.2.2.2.2.2.2.2.2.2.2.2 (hall 12 rfl))
    simp only [ec]
    clear ec hf hall
    go_wp2
    exact bodyPost_ret (res_cct Try.results32 rfl (ldChan x.1 _ _ z1) rfl (ldHand x.2.1 z2)) rfl ⟨⟨_,_,rfl,X1,X2,F1,F2⟩,hO⟩
  · intro l s wx hl hd hn hf0 K hK
    have hf:=Lib.hid hf0
    clear hf0
    go_simp
    refine hK.out (upd s 29 (.pointer (some ⟨w.heap.size+1,0,none⟩))) _ _ (by simp [upd_at] <;> rfl) ⟨hf.out.1,hf.out.2.1,hf.out.2.2.1,hf.out.2.2.2.1,hf.out.2.2.2.2.1,hf.out.2.2.2.2.2.1,hf.out.2.2.2.2.2.2.1,hf.out.2.2.2.2.2.2.2.1,hf.out.2.2.2.2.2.2.2.2.1,fun _=>rfl,fun h=>absurd h (by rw [show upd l 0 true 1=l 1 from rfl,hn 1 rfl];exact Bool.false_ne_true),fun h=>absurd h (by rw [show upd l 0 true 2=l 2 from rfl,hn 2 rfl];exact Bool.false_ne_true),fun h=>absurd h (by rw [show upd l 0 true 3=l 3 from rfl,hn 3 rfl];exact Bool.false_ne_true),fun h=>(hf.out.2.2.2.2.2.2.2.2.2.2.2.2.2.1 h),fun h=>(hf.out.2.2.2.2.2.2.2.2.2.2.2.2.2.2.1 h),fun h=>absurd h (by rw [show upd l 0 true 6=l 6 from rfl,hn 6 rfl];exact Bool.false_ne_true),fun h=>absurd h (by rw [show upd l 0 true 7=l 7 from rfl,hn 7 rfl];exact Bool.false_ne_true),fun h=>absurd h (by rw [show upd l 0 true 8=l 8 from rfl,hn 8 rfl];exact Bool.false_ne_true),fun h=>absurd h (by rw [show upd l 0 true 9=l 9 from rfl,hn 9 rfl];exact Bool.false_ne_true),fun h=>absurd h (by rw [show upd l 0 true 12=l 12 from rfl,hn 12 rfl];exact Bool.false_ne_true)⟩
  · intro l s wx hl hd hn hf0 K hK
    have hf:=Lib.hid hf0
    clear hf0
    have e0:=(hf.out.2.2.2.2.2.2.2.2.2.1 (hd 0 rfl))
    have z:wx.cell? ⟨w.heap.size+1,0,none⟩=some (.int .i64 k):=((bO hf.out.2.2.1).1 0).trans (by rw [hv_get0,hpos])
    go_simp
    refine hK.out (upd s 30 (.int .i64 k)) _ _ (by simp [upd_at,e0] <;> rfl) ⟨hf.out.1,hf.out.2.1,hf.out.2.2.1,hf.out.2.2.2.1,hf.out.2.2.2.2.1,hf.out.2.2.2.2.2.1,hf.out.2.2.2.2.2.2.1,hf.out.2.2.2.2.2.2.2.1,hf.out.2.2.2.2.2.2.2.2.1,fun h=>(hf.out.2.2.2.2.2.2.2.2.2.1 h),fun _=>rfl,fun h=>absurd h (by rw [show upd l 1 true 2=l 2 from rfl,hn 2 rfl];exact Bool.false_ne_true),fun h=>absurd h (by rw [show upd l 1 true 3=l 3 from rfl,hn 3 rfl];exact Bool.false_ne_true),fun h=>(hf.out.2.2.2.2.2.2.2.2.2.2.2.2.2.1 h),fun h=>(hf.out.2.2.2.2.2.2.2.2.2.2.2.2.2.2.1 h),fun h=>absurd h (by rw [show upd l 1 true 6=l 6 from rfl,hn 6 rfl];exact Bool.false_ne_true),fun h=>absurd h (by rw [show upd l 1 true 7=l 7 from rfl,hn 7 rfl];exact Bool.false_ne_true),fun h=>absurd h (by rw [show upd l 1 true 8=l 8 from rfl,hn 8 rfl];exact Bool.false_ne_true),fun h=>absurd h (by rw [show upd l 1 true 9=l 9 from rfl,hn 9 rfl];exact Bool.false_ne_true),fun h=>absurd h (by rw [show upd l 1 true 12=l 12 from rfl,hn 12 rfl];exact Bool.false_ne_true)⟩
  · intro l s wx hl hd hn hf0 K hK
    have hf:=Lib.hid hf0
    clear hf0
    have e1:=(hf.out.2.2.2.2.2.2.2.2.2.2.1 (hd 1 rfl))
    go_simp
    refine hK.out (upd s 31 (.pointer (some ⟨w1.heap.size,k,none⟩))) _ _ (by simp [upd_at,e1] <;> rfl) ⟨hf.out.1,hf.out.2.1,hf.out.2.2.1,hf.out.2.2.2.1,hf.out.2.2.2.2.1,hf.out.2.2.2.2.2.1,hf.out.2.2.2.2.2.2.1,hf.out.2.2.2.2.2.2.2.1,hf.out.2.2.2.2.2.2.2.2.1,fun h=>(hf.out.2.2.2.2.2.2.2.2.2.1 h),fun h=>(hf.out.2.2.2.2.2.2.2.2.2.2.1 h),fun _=>rfl,fun h=>absurd h (by rw [show upd l 2 true 3=l 3 from rfl,hn 3 rfl];exact Bool.false_ne_true),fun h=>(hf.out.2.2.2.2.2.2.2.2.2.2.2.2.2.1 h),fun h=>(hf.out.2.2.2.2.2.2.2.2.2.2.2.2.2.2.1 h),fun h=>absurd h (by rw [show upd l 2 true 6=l 6 from rfl,hn 6 rfl];exact Bool.false_ne_true),fun h=>absurd h (by rw [show upd l 2 true 7=l 7 from rfl,hn 7 rfl];exact Bool.false_ne_true),fun h=>absurd h (by rw [show upd l 2 true 8=l 8 from rfl,hn 8 rfl];exact Bool.false_ne_true),fun h=>absurd h (by rw [show upd l 2 true 9=l 9 from rfl,hn 9 rfl];exact Bool.false_ne_true),fun h=>absurd h (by rw [show upd l 2 true 12=l 12 from rfl,hn 12 rfl];exact Bool.false_ne_true)⟩
  · intro l s wx hl hd hn hf0 K hK
    have hf:=Lib.hid hf0
    clear hf0
    have e2:=(hf.out.2.2.2.2.2.2.2.2.2.2.2.1 (hd 2 rfl))
    have z:wx.cell? ⟨w1.heap.size,k,none⟩=some (.func (.func F) #[] #[]):=((bO hf.out.2.2.2.1).1 k).trans hfun
    go_simp
    refine hK.out (upd s 32 (.func (.func F) #[] #[])) _ _ (by simp [upd_at,e2] <;> rfl) ⟨hf.out.1,hf.out.2.1,hf.out.2.2.1,hf.out.2.2.2.1,hf.out.2.2.2.2.1,hf.out.2.2.2.2.2.1,hf.out.2.2.2.2.2.2.1,hf.out.2.2.2.2.2.2.2.1,hf.out.2.2.2.2.2.2.2.2.1,fun h=>(hf.out.2.2.2.2.2.2.2.2.2.1 h),fun h=>(hf.out.2.2.2.2.2.2.2.2.2.2.1 h),fun h=>(hf.out.2.2.2.2.2.2.2.2.2.2.2.1 h),fun _=>rfl,fun h=>(hf.out.2.2.2.2.2.2.2.2.2.2.2.2.2.1 h),fun h=>(hf.out.2.2.2.2.2.2.2.2.2.2.2.2.2.2.1 h),fun h=>absurd h (by rw [show upd l 3 true 6=l 6 from rfl,hn 6 rfl];exact Bool.false_ne_true),fun h=>absurd h (by rw [show upd l 3 true 7=l 7 from rfl,hn 7 rfl];exact Bool.false_ne_true),fun h=>absurd h (by rw [show upd l 3 true 8=l 8 from rfl,hn 8 rfl];exact Bool.false_ne_true),fun h=>absurd h (by rw [show upd l 3 true 9=l 9 from rfl,hn 9 rfl];exact Bool.false_ne_true),fun h=>absurd h (by rw [show upd l 3 true 12=l 12 from rfl,hn 12 rfl];exact Bool.false_ne_true)⟩
  · intro l s wx hl hd hn hf0 K hK
    have hf:=Lib.hid hf0
    clear hf0
    have zc:=hf.out.2.1
    go_simp
    refine hK.out (upd s 33 (.agg (cvals c (Value.slice a1 c.cells.length q1) (Value.slice a2 c.words.length q2)))) _ _ (by simp [upd_at] <;> rfl) ⟨hf.out.1,hf.out.2.1,hf.out.2.2.1,hf.out.2.2.2.1,hf.out.2.2.2.2.1,hf.out.2.2.2.2.2.1,hf.out.2.2.2.2.2.2.1,hf.out.2.2.2.2.2.2.2.1,hf.out.2.2.2.2.2.2.2.2.1,fun h=>(hf.out.2.2.2.2.2.2.2.2.2.1 h),fun h=>(hf.out.2.2.2.2.2.2.2.2.2.2.1 h),fun h=>(hf.out.2.2.2.2.2.2.2.2.2.2.2.1 h),fun h=>(hf.out.2.2.2.2.2.2.2.2.2.2.2.2.1 h),fun _=>rfl,fun h=>(hf.out.2.2.2.2.2.2.2.2.2.2.2.2.2.2.1 h),fun h=>absurd h (by rw [show upd l 4 true 6=l 6 from rfl,hn 6 rfl];exact Bool.false_ne_true),fun h=>absurd h (by rw [show upd l 4 true 7=l 7 from rfl,hn 7 rfl];exact Bool.false_ne_true),fun h=>absurd h (by rw [show upd l 4 true 8=l 8 from rfl,hn 8 rfl];exact Bool.false_ne_true),fun h=>absurd h (by rw [show upd l 4 true 9=l 9 from rfl,hn 9 rfl];exact Bool.false_ne_true),fun h=>absurd h (by rw [show upd l 4 true 12=l 12 from rfl,hn 12 rfl];exact Bool.false_ne_true)⟩
  · intro l s wx hl hd hn hf0 K hK
    have hf:=Lib.hid hf0
    clear hf0
    have zh:=hf.out.2.2.1
    go_simp
    refine hK.out (upd s 34 (.agg (hvals h))) _ _ (by simp [upd_at] <;> rfl) ⟨hf.out.1,hf.out.2.1,hf.out.2.2.1,hf.out.2.2.2.1,hf.out.2.2.2.2.1,hf.out.2.2.2.2.2.1,hf.out.2.2.2.2.2.2.1,hf.out.2.2.2.2.2.2.2.1,hf.out.2.2.2.2.2.2.2.2.1,fun h=>(hf.out.2.2.2.2.2.2.2.2.2.1 h),fun h=>(hf.out.2.2.2.2.2.2.2.2.2.2.1 h),fun h=>(hf.out.2.2.2.2.2.2.2.2.2.2.2.1 h),fun h=>(hf.out.2.2.2.2.2.2.2.2.2.2.2.2.1 h),fun h=>(hf.out.2.2.2.2.2.2.2.2.2.2.2.2.2.1 h),fun _=>rfl,fun h=>absurd h (by rw [show upd l 5 true 6=l 6 from rfl,hn 6 rfl];exact Bool.false_ne_true),fun h=>absurd h (by rw [show upd l 5 true 7=l 7 from rfl,hn 7 rfl];exact Bool.false_ne_true),fun h=>absurd h (by rw [show upd l 5 true 8=l 8 from rfl,hn 8 rfl];exact Bool.false_ne_true),fun h=>absurd h (by rw [show upd l 5 true 9=l 9 from rfl,hn 9 rfl];exact Bool.false_ne_true),fun h=>absurd h (by rw [show upd l 5 true 12=l 12 from rfl,hn 12 rfl];exact Bool.false_ne_true)⟩
  · intro l s wx hl hd hn hf0 K hK
    have hf:=Lib.hid hf0
    clear hf0
    have e3:=(hf.out.2.2.2.2.2.2.2.2.2.2.2.2.1 (hd 3 rfl))
    have e4:=(hf.out.2.2.2.2.2.2.2.2.2.2.2.2.2.1 (hd 4 rfl))
    have e5:=(hf.out.2.2.2.2.2.2.2.2.2.2.2.2.2.2.1 (hd 5 rfl))
    have o1:=hf.out.2.2.2.2.2.2.1 hl
    have o2:=hf.out.2.2.2.2.2.2.2.1 hl
    go_simp
    refine (HFF.out _ _ lo _ o1 o2 hf.out.2.2.2.2.2.2.2.2.1).mono ?_
    rintro _ wy ⟨⟨y1,y2,rfl,X1,X2,F1,F2⟩,hO⟩
    refine hK.out (upd (upd (upd s 1003 (y1)) 1004 (y2)) 35 (.tuple #[.agg (cvals x.1 y1 y2),.agg (hvals x.2.1),.bool x.2.2])) _ _ (by simp [upd_at,e3,e4,e5] <;> rfl) ⟨onlT hf.out.1 hO,hp_onl hf.out.2.1 hO o1 o2 (by decide) (by decide),hp_onl hf.out.2.2.1 hO o1 o2 (by decide) (by decide),hp_onl hf.out.2.2.2.1 hO o1 o2 (by decide) (by decide),by (have ee:l 10=false:=hn 10 rfl);(have F:=hf.out.2.2.2.2.1);rw [ee] at F;rw [show upd l 6 true 10=false from ee];exact hp_onl F hO o1 o2 (by decide) (by decide),by (have ee:l 11=false:=hn 11 rfl);(have F:=hf.out.2.2.2.2.2.1);rw [ee] at F;rw [show upd l 6 true 11=false from ee];exact hp_onl F hO o1 o2 (by decide) (by decide),fun h4=>absurd h4 (by rw [show upd l 6 true 6=true from rfl];decide),fun h4=>absurd h4 (by rw [show upd l 6 true 6=true from rfl];decide),Nat.le_trans hf.out.2.2.2.2.2.2.2.2.1 hO.2.2.2.1,fun h=>(hf.out.2.2.2.2.2.2.2.2.2.1 h),fun h=>(hf.out.2.2.2.2.2.2.2.2.2.2.1 h),fun h=>(hf.out.2.2.2.2.2.2.2.2.2.2.2.1 h),fun h=>(hf.out.2.2.2.2.2.2.2.2.2.2.2.2.1 h),fun h=>(hf.out.2.2.2.2.2.2.2.2.2.2.2.2.2.1 h),fun h=>(hf.out.2.2.2.2.2.2.2.2.2.2.2.2.2.2.1 h),fun _=>⟨rfl,X1,X2,fun j hj=>(F1 j hj).imp id (fun h=>Nat.le_trans hf.out.1.2.2.2.1 h),fun j hj=>(F2 j hj).imp id (fun h=>Nat.le_trans hf.out.1.2.2.2.1 h)⟩,fun h=>absurd h (by rw [show upd l 6 true 7=l 7 from rfl,hn 7 rfl];exact Bool.false_ne_true),fun h=>absurd h (by rw [show upd l 6 true 8=l 8 from rfl,hn 8 rfl];exact Bool.false_ne_true),fun h=>absurd h (by rw [show upd l 6 true 9=l 9 from rfl,hn 9 rfl];exact Bool.false_ne_true),fun h=>absurd h (by rw [show upd l 6 true 12=l 12 from rfl,hn 12 rfl];exact Bool.false_ne_true)⟩
  · intro l s wx hl hd hn hf0 K hK
    have hf:=Lib.hid hf0
    clear hf0
    have e6:=(hf.out.2.2.2.2.2.2.2.2.2.2.2.2.2.2.2.1 (hd 6 rfl)).1
    go_simp
    refine hK.out (upd s 36 (.agg (cvals x.1 (s 1003) (s 1004)))) _ _ (by simp [upd_at,e6] <;> rfl) ⟨hf.out.1,hf.out.2.1,hf.out.2.2.1,hf.out.2.2.2.1,hf.out.2.2.2.2.1,hf.out.2.2.2.2.2.1,hf.out.2.2.2.2.2.2.1,hf.out.2.2.2.2.2.2.2.1,hf.out.2.2.2.2.2.2.2.2.1,fun h=>(hf.out.2.2.2.2.2.2.2.2.2.1 h),fun h=>(hf.out.2.2.2.2.2.2.2.2.2.2.1 h),fun h=>(hf.out.2.2.2.2.2.2.2.2.2.2.2.1 h),fun h=>(hf.out.2.2.2.2.2.2.2.2.2.2.2.2.1 h),fun h=>(hf.out.2.2.2.2.2.2.2.2.2.2.2.2.2.1 h),fun h=>(hf.out.2.2.2.2.2.2.2.2.2.2.2.2.2.2.1 h),fun h=>(hf.out.2.2.2.2.2.2.2.2.2.2.2.2.2.2.2.1 h),fun _=>rfl,fun h=>(hf.out.2.2.2.2.2.2.2.2.2.2.2.2.2.2.2.2.2.1 h),fun h=>(hf.out.2.2.2.2.2.2.2.2.2.2.2.2.2.2.2.2.2.2.1 h),fun h=>(hf.out.2.2.2.2.2.2.2.2.2.2.2.2.2.2.2.2.2.2.2 h)⟩
  · intro l s wx hl hd hn hf0 K hK
    have hf:=Lib.hid hf0
    clear hf0
    have e6:=(hf.out.2.2.2.2.2.2.2.2.2.2.2.2.2.2.2.1 (hd 6 rfl)).1
    go_simp
    refine hK.out (upd s 37 (.agg (hvals x.2.1))) _ _ (by simp [upd_at,e6] <;> rfl) ⟨hf.out.1,hf.out.2.1,hf.out.2.2.1,hf.out.2.2.2.1,hf.out.2.2.2.2.1,hf.out.2.2.2.2.2.1,hf.out.2.2.2.2.2.2.1,hf.out.2.2.2.2.2.2.2.1,hf.out.2.2.2.2.2.2.2.2.1,fun h=>(hf.out.2.2.2.2.2.2.2.2.2.1 h),fun h=>(hf.out.2.2.2.2.2.2.2.2.2.2.1 h),fun h=>(hf.out.2.2.2.2.2.2.2.2.2.2.2.1 h),fun h=>(hf.out.2.2.2.2.2.2.2.2.2.2.2.2.1 h),fun h=>(hf.out.2.2.2.2.2.2.2.2.2.2.2.2.2.1 h),fun h=>(hf.out.2.2.2.2.2.2.2.2.2.2.2.2.2.2.1 h),fun h=>(hf.out.2.2.2.2.2.2.2.2.2.2.2.2.2.2.2.1 h),fun h=>(hf.out.2.2.2.2.2.2.2.2.2.2.2.2.2.2.2.2.1 h),fun _=>rfl,fun h=>(hf.out.2.2.2.2.2.2.2.2.2.2.2.2.2.2.2.2.2.2.1 h),fun h=>(hf.out.2.2.2.2.2.2.2.2.2.2.2.2.2.2.2.2.2.2.2 h)⟩
  · intro l s wx hl hd hn hf0 K hK
    have hf:=Lib.hid hf0
    clear hf0
    have e6:=(hf.out.2.2.2.2.2.2.2.2.2.2.2.2.2.2.2.1 (hd 6 rfl)).1
    go_simp
    refine hK.out (upd s 38 (.bool x.2.2)) _ _ (by simp [upd_at,e6] <;> rfl) ⟨hf.out.1,hf.out.2.1,hf.out.2.2.1,hf.out.2.2.2.1,hf.out.2.2.2.2.1,hf.out.2.2.2.2.2.1,hf.out.2.2.2.2.2.2.1,hf.out.2.2.2.2.2.2.2.1,hf.out.2.2.2.2.2.2.2.2.1,fun h=>(hf.out.2.2.2.2.2.2.2.2.2.1 h),fun h=>(hf.out.2.2.2.2.2.2.2.2.2.2.1 h),fun h=>(hf.out.2.2.2.2.2.2.2.2.2.2.2.1 h),fun h=>(hf.out.2.2.2.2.2.2.2.2.2.2.2.2.1 h),fun h=>(hf.out.2.2.2.2.2.2.2.2.2.2.2.2.2.1 h),fun h=>(hf.out.2.2.2.2.2.2.2.2.2.2.2.2.2.2.1 h),fun h=>(hf.out.2.2.2.2.2.2.2.2.2.2.2.2.2.2.2.1 h),fun h=>(hf.out.2.2.2.2.2.2.2.2.2.2.2.2.2.2.2.2.1 h),fun h=>(hf.out.2.2.2.2.2.2.2.2.2.2.2.2.2.2.2.2.2.1 h),fun _=>rfl,fun h=>absurd h (by rw [show upd l 9 true 12=l 12 from rfl,hn 12 rfl];exact Bool.false_ne_true)⟩
  · intro l s wx hl hd hn hf0 K hK
    have hf:=Lib.hid hf0
    clear hf0
    have e7:=(hf.out.2.2.2.2.2.2.2.2.2.2.2.2.2.2.2.2.1 (hd 7 rfl))
    have e6:=(hf.out.2.2.2.2.2.2.2.2.2.2.2.2.2.2.2.1 (hd 6 rfl))
    have X1:=e6.2.1
    have X2:=e6.2.2.1
    clear e6
    have zr:=hf.out.2.2.2.2.1
    rw [hl] at zr
    dsimp only [cond] at zr
    obtain ⟨xa,xp,ea,_⟩:=X1.seg
    obtain ⟨xb,xq,eb2,_⟩:=X2.seg
    rw [ea,eb2] at e7
    have zn:hp (setBox wx (w.heap.size+1+1) (cvals x.1 (.slice xa x.1.cells.length xp) (.slice xb x.1.words.length xq))) (w.heap.size+1+1)=some (.cells (cvals x.1 (s 1003) (s 1004)) 33):=by rw [ea,eb2];exact hp_set zr
    go_simp
    refine hK.out (s) _ _ (by simp [upd_at,e7,ea,eb2] <;> rfl) ⟨oX hf.out.1 (by omega),(bx_heap_ne (by omega)).trans hf.out.2.1,(bx_heap_ne (by omega)).trans hf.out.2.2.1,(bx_heap_ne (by omega)).trans hf.out.2.2.2.1,zn,(bx_heap_ne (by omega)).trans hf.out.2.2.2.2.2.1,fun h4=>absurd ((hd 6 rfl).symm.trans h4) (by decide),fun h4=>absurd ((hd 6 rfl).symm.trans h4) (by decide),Nat.le_trans hf.out.2.2.2.2.2.2.2.2.1 (Nat.le_of_eq bx_size.symm),fun h=>(hf.out.2.2.2.2.2.2.2.2.2.1 h),fun h=>(hf.out.2.2.2.2.2.2.2.2.2.2.1 h),fun h=>(hf.out.2.2.2.2.2.2.2.2.2.2.2.1 h),fun h=>(hf.out.2.2.2.2.2.2.2.2.2.2.2.2.1 h),fun h=>(hf.out.2.2.2.2.2.2.2.2.2.2.2.2.2.1 h),fun h=>(hf.out.2.2.2.2.2.2.2.2.2.2.2.2.2.2.1 h),fun h=>(let ⟨e,X1,X2,F1,F2⟩:=hf.out.2.2.2.2.2.2.2.2.2.2.2.2.2.2.2.1 h;⟨e,own_far X1 zr (by decide),own_far X2 zr (by decide),F1,F2⟩),fun h=>(hf.out.2.2.2.2.2.2.2.2.2.2.2.2.2.2.2.2.1 h),fun h=>(hf.out.2.2.2.2.2.2.2.2.2.2.2.2.2.2.2.2.2.1 h),fun h=>(hf.out.2.2.2.2.2.2.2.2.2.2.2.2.2.2.2.2.2.2.1 h),fun h=>(hf.out.2.2.2.2.2.2.2.2.2.2.2.2.2.2.2.2.2.2.2 h)⟩
  · intro l s wx hl hd hn hf0 K hK
    have hf:=Lib.hid hf0
    clear hf0
    have e8:=(hf.out.2.2.2.2.2.2.2.2.2.2.2.2.2.2.2.2.2.1 (hd 8 rfl))
    have e6:=(hf.out.2.2.2.2.2.2.2.2.2.2.2.2.2.2.2.1 (hd 6 rfl))
    have X1:=e6.2.1
    have X2:=e6.2.2.1
    clear e6
    have zr:=hf.out.2.2.2.2.2.1
    rw [hl] at zr
    dsimp only [cond] at zr
    have zn:hp (setBox wx (w.heap.size+1+1+1) (hvals x.2.1)) (w.heap.size+1+1+1)=some (.cells (hvals x.2.1) 36):=by exact hp_set zr
    go_simp
    refine hK.out (s) _ _ (by simp [upd_at,e8] <;> rfl) ⟨oX hf.out.1 (by omega),(bx_heap_ne (by omega)).trans hf.out.2.1,(bx_heap_ne (by omega)).trans hf.out.2.2.1,(bx_heap_ne (by omega)).trans hf.out.2.2.2.1,(bx_heap_ne (by omega)).trans hf.out.2.2.2.2.1,zn,fun h4=>absurd ((hd 6 rfl).symm.trans h4) (by decide),fun h4=>absurd ((hd 6 rfl).symm.trans h4) (by decide),Nat.le_trans hf.out.2.2.2.2.2.2.2.2.1 (Nat.le_of_eq bx_size.symm),fun h=>(hf.out.2.2.2.2.2.2.2.2.2.1 h),fun h=>(hf.out.2.2.2.2.2.2.2.2.2.2.1 h),fun h=>(hf.out.2.2.2.2.2.2.2.2.2.2.2.1 h),fun h=>(hf.out.2.2.2.2.2.2.2.2.2.2.2.2.1 h),fun h=>(hf.out.2.2.2.2.2.2.2.2.2.2.2.2.2.1 h),fun h=>(hf.out.2.2.2.2.2.2.2.2.2.2.2.2.2.2.1 h),fun h=>(let ⟨e,X1,X2,F1,F2⟩:=hf.out.2.2.2.2.2.2.2.2.2.2.2.2.2.2.2.1 h;⟨e,own_far X1 zr (by decide),own_far X2 zr (by decide),F1,F2⟩),fun h=>(hf.out.2.2.2.2.2.2.2.2.2.2.2.2.2.2.2.2.1 h),fun h=>(hf.out.2.2.2.2.2.2.2.2.2.2.2.2.2.2.2.2.2.1 h),fun h=>(hf.out.2.2.2.2.2.2.2.2.2.2.2.2.2.2.2.2.2.2.1 h),fun h=>(hf.out.2.2.2.2.2.2.2.2.2.2.2.2.2.2.2.2.2.2.2 h)⟩
  · intro l s wx hl hd hn hf0 K hK
    have hf:=Lib.hid hf0
    clear hf0
    have e9:=(hf.out.2.2.2.2.2.2.2.2.2.2.2.2.2.2.2.2.2.2.1 (hd 9 rfl))
    go_simp
    refine hK.out (upd s 6 (.bool x.2.2)) _ _ (by simp [upd_at,e9] <;> rfl) ⟨hf.out.1,hf.out.2.1,hf.out.2.2.1,hf.out.2.2.2.1,hf.out.2.2.2.2.1,hf.out.2.2.2.2.2.1,hf.out.2.2.2.2.2.2.1,hf.out.2.2.2.2.2.2.2.1,hf.out.2.2.2.2.2.2.2.2.1,fun h=>(hf.out.2.2.2.2.2.2.2.2.2.1 h),fun h=>(hf.out.2.2.2.2.2.2.2.2.2.2.1 h),fun h=>(hf.out.2.2.2.2.2.2.2.2.2.2.2.1 h),fun h=>(hf.out.2.2.2.2.2.2.2.2.2.2.2.2.1 h),fun h=>(hf.out.2.2.2.2.2.2.2.2.2.2.2.2.2.1 h),fun h=>(hf.out.2.2.2.2.2.2.2.2.2.2.2.2.2.2.1 h),fun h=>(hf.out.2.2.2.2.2.2.2.2.2.2.2.2.2.2.2.1 h),fun h=>(hf.out.2.2.2.2.2.2.2.2.2.2.2.2.2.2.2.2.1 h),fun h=>(hf.out.2.2.2.2.2.2.2.2.2.2.2.2.2.2.2.2.2.1 h),fun h=>(hf.out.2.2.2.2.2.2.2.2.2.2.2.2.2.2.2.2.2.2.1 h),fun _=>rfl⟩
end Go.Proofs.Ytajopaegmocnlaa
set_option linter.unusedSimpArgs false
set_option linter.unusedVariables false
namespace Go.Proofs.Ytajopaegmocnlaa
open Go.RowKit
set_option linter.unusedSimpArgs false
attribute [local simp] bx_size
attribute [local go_sem ↓] zeroHand zeroChan toLHand toLChan toVHand toVChan storeHand storeChan storeHandC storeChanC
attribute [local go_sem ↓] funcNil
def fin6 (x:St):St:=if x.2.2 then done x.1 x.2.1 else nothing
theorem turnC_no {c:Ch} {i f t v:Int} (h:turnCB c i f t v=false):turnC c i f t v=c:=by
  have e:turnX (cellAt c i) f t v=cellAt c i:=by
    have h2:turnB (cellAt c i).s (cellAt c i).e (cellAt c i).t f t v=false:=h
    simp [turnX,turnS,turnW,h2]
  unfold turnC setAt
  rw [e]
  unfold cellAt
  have:c.cells.set i.toNat (c.cells.getD i.toNat ⟨0,0,0⟩)=c.cells:=by
    apply List.ext_getElem?
    intro n
    rw [List.getElem?_set]
    by_cases hn:i.toNat=n
    · subst hn
      by_cases hl:i.toNat<c.cells.length
      · simp [hl]
      · simp [hl,Nat.le_of_not_lt hl]
    · simp [hn]
  rw [this]
theorem fin_ok (c:Ch) (h:Ha):fin6 (c,h,true)=done c h:=rfl
theorem fin_put (c:Ch) (h:Ha) (hs:h.seen=0∨h.seen=1∨(h.seen≠0∧h.seen≠1)):fin6 (putS c h)=put6 c h:=by
  have K:fin6 (keep6 c h)=if turnCB c h.cell h.seen 2 0 then done (turnC c h.cell h.seen 2 0) (resting 1 0) else done (turnC c h.cell h.seen 2 0) { h with pos:=3 }:=by
    unfold keep6
    cases ht:turnCB c h.cell h.seen 2 0 with
    | true=>simp [fin_ok]
    | false=>simp [fin_ok,turnC_no ht]
  have Wt:fin6 (wt6 c h)=done (wait6 c h 3 23 3).1 (wait6 c h 3 23 3).2:=by
    unfold wt6 wtS wait6
    by_cases hf:80≤c.words.length
    · simp [hf,fin_ok]
    · cases ht:turnCB c h.cell h.seen 3 (c.words.length+1) with
      | true=>simp [hf,fin_ok]
      | false=>simp [hf,fin_ok,turnC_no ht]
  unfold putS put6
  rcases hs with h0|h0|⟨h0,h1⟩
  · have e0:(h.seen == 1)=false:=by simp [h0]
    have e1:(h.seen == 0)=true:=by simp [h0]
    have e2:(h.seen != 0 && h.seen != 1)=false:=by simp [h0]
    rw [e2]
    by_cases hx:h.cell<(if h.come<h.fin then h.fin else h.come)
    · have hk:putK h=true:=by simp [putK,e1,hx]
      have hn:(h.seen == 0 && (decide (h.come≤h.cell) && decide (h.fin≤h.cell)))=false:=by
        rw [e1]
        simp
        split at hx <;> omega
      rw [hk,hn]
      simpa using K
    · have hk:putK h=false:=by simp [putK,e0,hx]
      have hn:(h.seen == 0 && (decide (h.come≤h.cell) && decide (h.fin≤h.cell)))=true:=by
        rw [e1]
        simp
        split at hx <;> omega
      rw [hk,hn,e1]
      simpa using Wt
  · have e1:(h.seen == 0)=false:=by simp [h0]
    have e2:(h.seen != 0 && h.seen != 1)=false:=by simp [h0]
    have hk:putK h=true:=by simp [putK,h0]
    rw [hk,e2,e1]
    simpa using K
  · have e0:(h.seen == 1)=false:=by simpa using h1
    have e1:(h.seen == 0)=false:=by simpa using h0
    have e2:(h.seen != 0 && h.seen != 1)=true:=by simp [h0,h1]
    have hk:putK h=false:=by simp [putK,e0,e1]
    rw [hk,e2,e1]
    rfl
theorem fin76 (x:St) (h:x.2.2=true∨x=nothing):fin7 x=fin6 x:=by
  rcases h with h|h
  · obtain ⟨c,y,ok⟩:=x
    cases h
    rfl
  · subst h
    rfl
theorem put_ok (c:Ch) (h:Ha):(putS c h).2.2=true∨putS c h=nothing:=by
  unfold putS keep6 wt6 wtS
  repeat' split
  all_goals first|exact .inl rfl|exact .inr rfl
theorem lk_ok (c:Ch) (h:Ha):(lk6 c h).2.2=true∨lk6 c h=nothing:=by
  unfold lk6
  split
  · exact .inl rfl
  · exact .inr rfl
set_option maxRecDepth 100000 in
set_option maxHeartbeats 2000000 in
theorem sendLook_no (c:Ch) (h:Ha) (v1 v2:Value) (lo:Nat) (w:World) (h1:OCells w lo v1 c.cells) (h2:OInts w lo v2 c.words) (hc0:0≤h.cell) (hc1:h.cell<c.cells.length) (n0:((cellAt c h.cell).s == 0)=false) (n1:((cellAt c h.cell).s == 1)=false) (n4:((cellAt c h.cell).s == 4)=false) (n8:((cellAt c h.cell).s == 8)=false) (n10:((cellAt c h.cell).s == 10)=false) :
    Calls Try.prog 86 #[.agg (cvals c v1 v2),.agg (hvals h)] w fun r w'=>StepO w w' lo v1 v2 (nothing) r:=by
  have b1:=fun j (hj:v1.ownBlock=some j)=>(h1.lt j hj).2
  have b2:=fun j (hj:v2.ownBlock=some j)=>(h2.lt j hj).2
  have T:=Lib.hid fun W=>refused_any W lo v1 v2
  obtain ⟨i,hci⟩:∃ i:Nat,h.cell=(i:Int):=⟨h.cell.toNat,by omega⟩
  have hi:i<c.cells.length:=by omega
  have hi0:(0:Int)≤(i:Int):=by omega
  have hi1:(i:Int)<(c.cells.length:Int):=by omega
  have hne:=h1.ne h2
  obtain ⟨a2,q2,rfl,_⟩:=h2.seg
  obtain ⟨g,q1,rfl,hlo1,hlt,hcell,hfr⟩:=h1.open1 hi
  have O1:=Lib.hid h1
  have O2:=Lib.hid h2
  have m1:∀ j,w.heap.size≤j→some j≠(Value.slice (some ⟨g,0,none⟩) c.cells.length q1).ownBlock:=fun j hj e=>by have:=b1 _ e.symm;omega
  have m2:∀ j,w.heap.size≤j→some j≠(Value.slice a2 c.words.length q2).ownBlock:=fun j hj e=>by have:=b2 _ e.symm;omega
  have m10:=m1 (w.heap.size) (by omega)
  have m11:=m1 (w.heap.size+1) (by omega)
  have m12:=m1 (w.heap.size+1+1) (by omega)
  have m13:=m1 (w.heap.size+1+1+1) (by omega)
  have m20:=m2 (w.heap.size) (by omega)
  have m21:=m2 (w.heap.size+1) (by omega)
  have m22:=m2 (w.heap.size+1+1) (by omega)
  have m23:=m2 (w.heap.size+1+1+1) (by omega)
  have lg0:g<w.heap.size+1:=by omega
  have lg1:g<w.heap.size+1+1:=by omega
  have lg2:g<w.heap.size+1+1+1:=by omega
  have ng0:g≠w.heap.size:=by omega
  have ng1:g≠w.heap.size+1:=by omega
  have ng2:g≠w.heap.size+1+1:=by omega
  have ng3:g≠w.heap.size+1+1+1:=by omega
  have mg0:w.heap.size≠g:=by omega
  have mg1:w.heap.size+1≠g:=by omega
  have mg2:w.heap.size+1+1≠g:=by omega
  have mg3:w.heap.size+1+1+1≠g:=by omega
  have hx:Hid (cellAt c h.cell=c.cells.getD i ⟨0,0,0⟩):=by simp [cellAt,Hid,hci]
  have c0:=hcell 0 (by omega)
  have c1:=hcell 1 (by omega)
  have c2:=hcell 2 (by omega)
  simp only [C3.val,Nat.add_zero] at c0 c1 c2
  have ex:=hx.out
  rw [ex] at n0 n1 n4 n8 n10
  generalize c.cells.getD i ⟨0,0,0⟩=x0 at *
  obtain ⟨s,e,t⟩:=x0
  simp only at n0 n1 n4 n8 n10 c0 c1 c2
  generalize nothing=x at *
  clear hcell hx h1 h2 hc0 hc1 ex
  have o1:=O1.out
  have o2:=O2.out
  go_enter Try.func86,Try.ntmps86
  go_wp2_with fail
  go_region_held3 (fun w'=>w'.cell? ⟨w.heap.size,4,none⟩=some (.slice (some ⟨g,0,none⟩) c.cells.length q1)∧w'.cell? ⟨w.heap.size+1,3,none⟩=some (.int .i64 i)∧w'.cell? ⟨g,i*3,none⟩=some (.int .i64 s)∧w'.cell? ⟨g,i*3+2,none⟩=some (.int .i64 t))
    (first|(simp [*,go_sem]))
    (first|fail)
  go_wp2_with fail
  refine (T.out _).mono ?_
  rintro _ w3 ⟨⟨y1,y2,rfl,oY1,oY2,fY1,fY2⟩,hbw3⟩
  have hO3:Onl (Value.slice (some ⟨g,0,none⟩) c.cells.length q1).ownBlock (Value.slice a2 c.words.length q2).ownBlock w w3:=onlT (onlB (by exact zB)) (onlB hbw3)
  have hsw3:=hbw3.size;(try simp at hsw3);have zz:=q4 hbw3 (b:=w.heap.size);(try simp [go_sem] at zz);(try clear z_wppp x_wppp f_wppp l_wppp);(try clear z_wpp x_wpp f_wpp l_wpp);(try clear z_wp x_wp f_wp l_wp);(try clear z_w x_w f_w l_w);obtain ⟨z_wppp,z_wpp,z_wp,z_w⟩:=zz;obtain ⟨x_wppp,f_wppp,l_wppp⟩:=bO z_wppp;obtain ⟨x_wpp,f_wpp,l_wpp⟩:=bO z_wpp;obtain ⟨x_wp,f_wp,l_wp⟩:=bO z_wp;obtain ⟨x_w,f_w,l_w⟩:=bO z_w;clear hbw3
  have hoff1:∀ j,w.heap.size≤j→j<w.heap.size+1+1+1+1→y1.ownBlock≠some j:=fun j h1 h2=>fY1.off b1 h1 (by (try simp) <;> omega);have hoff2:∀ j,w.heap.size≤j→j<w.heap.size+1+1+1+1→y2.ownBlock≠some j:=fun j h1 h2=>fY2.off b2 h1 (by (try simp) <;> omega);have fr1:Fresh w _ y1:=fun j hj=>(fY1 j hj).imp id (fun h=>Nat.le_trans (by (try simp) <;> omega) h);have fr2:Fresh w _ y2:=fun j hj=>(fY2 j hj).imp id (fun h=>Nat.le_trans (by (try simp) <;> omega) h);obtain ⟨ya,yp,rfl,_⟩:=oY1.seg;obtain ⟨yb,yq,rfl,_⟩:=oY2.seg
  go_wp2
  refine bodyPost_ret (res_cct Try.results86 rfl (ldChan x.1 (.slice ya x.1.cells.length yp) (.slice yb x.1.words.length yq) (by simp [go_sem, *])) rfl (ldHand x.2.1 (by simp [go_sem, *]))) rfl ⟨⟨_,_,rfl,?_,?_,fr1,fr2⟩,by (repeat (first|with_reducible assumption|with_reducible refine oA ?_|with_reducible refine oD ?_|((with_reducible refine oX ?_ ?_);rotate_left;(focus ((try dsimp only);(try simp);(try omega))))|((with_reducible refine oS ?_ ?_);rotate_left;(focus ((try dsimp only);(try simp);(try omega))))))⟩
  · exact zP oY1 oY1 hoff1
  · exact zP oY2 oY2 hoff2
set_option maxRecDepth 100000 in
set_option maxHeartbeats 2000000 in
theorem sendTouch_no (c:Ch) (h:Ha) (v1 v2:Value) (lo:Nat) (w:World) (h1:OCells w lo v1 c.cells) (h2:OInts w lo v2 c.words) (hk:(h.code != 1)=true) :
    Calls Try.prog 32 #[.agg (cvals c v1 v2),.agg (hvals h)] w fun r w'=>StepO w w' lo v1 v2 (nothing) r:=by
  have T:=Lib.hid fun W=>refused_any W lo v1 v2
  have TT:=Lib.hid fun w=>touches_any w
  generalize nothing=x at *
  have b1:=fun j (hj:v1.ownBlock=some j)=>(h1.lt j hj).2
  have b2:=fun j (hj:v2.ownBlock=some j)=>(h2.lt j hj).2
  have m1:∀ j,w.heap.size≤j→some j≠v1.ownBlock:=fun j hj e=>by have:=b1 _ e.symm;omega
  have m2:∀ j,w.heap.size≤j→some j≠v2.ownBlock:=fun j hj e=>by have:=b2 _ e.symm;omega
  have m10:=m1 (w.heap.size) (by omega)
  have m11:=m1 (w.heap.size+1) (by omega)
  have m12:=m1 (w.heap.size+1+1) (by omega)
  have m13:=m1 (w.heap.size+1+1+1) (by omega)
  have m20:=m2 (w.heap.size) (by omega)
  have m21:=m2 (w.heap.size+1) (by omega)
  have m22:=m2 (w.heap.size+1+1) (by omega)
  have m23:=m2 (w.heap.size+1+1+1) (by omega)
  have o1:=h1
  have o2:=h2
  obtain ⟨a1,q1,e1,_⟩:=h1.seg
  obtain ⟨a2,q2,e2,_⟩:=h2.seg
  subst e1 e2
  clear h1 h2
  go_enter Try.func32,Try.ntmps32
  go_wp2_with fail;refine bHit w (by exact zB) fun bb=>?_;refine (TT.out _).mono ?_;rintro _ w1 ⟨rfl,hbw1⟩;have hCw1:Below w.heap.size w w1:=bT bb hbw1;have hsw1:=hbw1.size;(try simp at hsw1);have zz:=q4 hbw1 (b:=w.heap.size);(try simp [go_sem] at zz);(try clear z_wppp x_wppp f_wppp l_wppp);(try clear z_wpp x_wpp f_wpp l_wpp);(try clear z_wp x_wp f_wp l_wp);(try clear z_w x_w f_w l_w);obtain ⟨z_wppp,z_wpp,z_wp,z_w⟩:=zz;obtain ⟨x_wppp,f_wppp,l_wppp⟩:=bO z_wppp;obtain ⟨x_wpp,f_wpp,l_wpp⟩:=bO z_wpp;obtain ⟨x_wp,f_wp,l_wp⟩:=bO z_wp;obtain ⟨x_w,f_w,l_w⟩:=bO z_w;have hKw1:Below w.heap.size w w1:=hCw1;clear hbw1 bb
  unfold tbl
  go_wp2_with fail
  refine (T.out _).mono ?_
  rintro _ w3 ⟨⟨y1,y2,rfl,oY1,oY2,fY1,fY2⟩,hbw3⟩
  have hO:=onlB (a:=(Value.slice a1 c.cells.length q1).ownBlock) (b:=(Value.slice a2 c.words.length q2).ownBlock) hbw3
  have hO3:Onl (Value.slice a1 c.cells.length q1).ownBlock (Value.slice a2 c.words.length q2).ownBlock w w3:=onlT (onlB (by exact zB)) hO
  have hsw3:=hO.2.2.2.1;(try (simp at hsw3));have zz:=And.intro (onlHp hO (i:=w.heap.size+1+1+1) (by (try simp) <;> omega) (by assumption) (by assumption)) <| And.intro (onlHp hO (i:=w.heap.size+1+1) (by (try simp) <;> omega) (by assumption) (by assumption)) <| And.intro (onlHp hO (i:=w.heap.size+1) (by (try simp) <;> omega) (by assumption) (by assumption)) <| onlHp hO (i:=w.heap.size) (by (try simp) <;> omega) (by assumption) (by assumption);(first|simp [go_sem,z_wppp,z_wpp,z_wp,z_w,l_w,l_wp,l_wpp,l_wppp] at zz|simp [go_sem] at zz|skip);(try clear z_wppp x_wppp f_wppp l_wppp);(try clear z_wpp x_wpp f_wpp l_wpp);(try clear z_wp x_wp f_wp l_wp);(try clear z_w x_w f_w l_w);obtain ⟨z_wppp,z_wpp,z_wp,z_w⟩:=zz;obtain ⟨x_wppp,f_wppp,l_wppp⟩:=bO z_wppp;obtain ⟨x_wpp,f_wpp,l_wpp⟩:=bO z_wpp;obtain ⟨x_wp,f_wp,l_wp⟩:=bO z_wp;obtain ⟨x_w,f_w,l_w⟩:=bO z_w
  clear hO hbw3
  have hoff1:∀ j,w.heap.size≤j→j<w.heap.size+1+1+1+1→y1.ownBlock≠some j:=fun j h1 h2=>fY1.off b1 h1 (by (try simp) <;> omega);have hoff2:∀ j,w.heap.size≤j→j<w.heap.size+1+1+1+1→y2.ownBlock≠some j:=fun j h1 h2=>fY2.off b2 h1 (by (try simp) <;> omega);have fr1:Fresh w _ y1:=fun j hj=>(fY1 j hj).imp id (fun h=>Nat.le_trans (by (try simp) <;> omega) h);have fr2:Fresh w _ y2:=fun j hj=>(fY2 j hj).imp id (fun h=>Nat.le_trans (by (try simp) <;> omega) h);obtain ⟨ya,yp,rfl,_⟩:=oY1.seg;obtain ⟨yb,yq,rfl,_⟩:=oY2.seg
  go_wp2
  refine bodyPost_ret (res_cct Try.results32 rfl (ldChan x.1 (.slice ya x.1.cells.length yp) (.slice yb x.1.words.length yq) (by simp [go_sem, *])) rfl (ldHand x.2.1 (by simp [go_sem, *]))) rfl ⟨⟨_,_,rfl,?_,?_,fr1,fr2⟩,by (repeat (first|with_reducible assumption|with_reducible refine oA ?_|with_reducible refine oD ?_|((with_reducible refine oX ?_ ?_);rotate_left;(focus ((try dsimp only);(try simp);(try omega))))|((with_reducible refine oS ?_ ?_);rotate_left;(focus ((try dsimp only);(try simp);(try omega))))))⟩
  · exact zP oY1 oY1 hoff1
  · exact zP oY2 oY2 hoff2
set_option maxRecDepth 100000 in
set_option maxHeartbeats 2000000 in
theorem sendTouch_far (c:Ch) (h:Ha) (v1 v2:Value) (lo:Nat) (w:World) (h1:OCells w lo v1 c.cells) (h2:OInts w lo v2 c.words) (hk:(h.code != 1)=false) (hp:(9:Int)≤h.pos) :
    Calls Try.prog 32 #[.agg (cvals c v1 v2),.agg (hvals h)] w fun r w'=>StepO w w' lo v1 v2 (nothing) r:=by
  have T:=Lib.hid fun W=>refused_any W lo v1 v2
  have TT:=Lib.hid fun w=>touches_any w
  generalize nothing=x at *
  have b1:=fun j (hj:v1.ownBlock=some j)=>(h1.lt j hj).2
  have b2:=fun j (hj:v2.ownBlock=some j)=>(h2.lt j hj).2
  have m1:∀ j,w.heap.size≤j→some j≠v1.ownBlock:=fun j hj e=>by have:=b1 _ e.symm;omega
  have m2:∀ j,w.heap.size≤j→some j≠v2.ownBlock:=fun j hj e=>by have:=b2 _ e.symm;omega
  have m10:=m1 (w.heap.size) (by omega)
  have m11:=m1 (w.heap.size+1) (by omega)
  have m12:=m1 (w.heap.size+1+1) (by omega)
  have m13:=m1 (w.heap.size+1+1+1) (by omega)
  have m20:=m2 (w.heap.size) (by omega)
  have m21:=m2 (w.heap.size+1) (by omega)
  have m22:=m2 (w.heap.size+1+1) (by omega)
  have m23:=m2 (w.heap.size+1+1+1) (by omega)
  have o1:=h1
  have o2:=h2
  obtain ⟨a1,q1,e1,_⟩:=h1.seg
  obtain ⟨a2,q2,e2,_⟩:=h2.seg
  subst e1 e2
  clear h1 h2
  go_enter Try.func32,Try.ntmps32
  go_wp2_with fail;refine bHit w (by exact zB) fun bb=>?_;refine (TT.out _).mono ?_;rintro _ w1 ⟨rfl,hbw1⟩;have hCw1:Below w.heap.size w w1:=bT bb hbw1;have hsw1:=hbw1.size;(try simp at hsw1);have zz:=q4 hbw1 (b:=w.heap.size);(try simp [go_sem] at zz);(try clear z_wppp x_wppp f_wppp l_wppp);(try clear z_wpp x_wpp f_wpp l_wpp);(try clear z_wp x_wp f_wp l_wp);(try clear z_w x_w f_w l_w);obtain ⟨z_wppp,z_wpp,z_wp,z_w⟩:=zz;obtain ⟨x_wppp,f_wppp,l_wppp⟩:=bO z_wppp;obtain ⟨x_wpp,f_wpp,l_wpp⟩:=bO z_wpp;obtain ⟨x_wp,f_wp,l_wp⟩:=bO z_wp;obtain ⟨x_w,f_w,l_w⟩:=bO z_w;have hKw1:Below w.heap.size w w1:=hCw1;clear hbw1 bb
  unfold tbl
  go_wp2_with fail
  refine (T.out _).mono ?_
  rintro _ w3 ⟨⟨y1,y2,rfl,oY1,oY2,fY1,fY2⟩,hbw3⟩
  have hO:=onlB (a:=(Value.slice a1 c.cells.length q1).ownBlock) (b:=(Value.slice a2 c.words.length q2).ownBlock) hbw3
  have hO3:Onl (Value.slice a1 c.cells.length q1).ownBlock (Value.slice a2 c.words.length q2).ownBlock w w3:=onlT (onlB (by exact zB)) hO
  have hsw3:=hO.2.2.2.1;(try (simp at hsw3));have zz:=And.intro (onlHp hO (i:=w.heap.size+1+1+1) (by (try simp) <;> omega) (by assumption) (by assumption)) <| And.intro (onlHp hO (i:=w.heap.size+1+1) (by (try simp) <;> omega) (by assumption) (by assumption)) <| And.intro (onlHp hO (i:=w.heap.size+1) (by (try simp) <;> omega) (by assumption) (by assumption)) <| onlHp hO (i:=w.heap.size) (by (try simp) <;> omega) (by assumption) (by assumption);(first|simp [go_sem,z_wppp,z_wpp,z_wp,z_w,l_w,l_wp,l_wpp,l_wppp] at zz|simp [go_sem] at zz|skip);(try clear z_wppp x_wppp f_wppp l_wppp);(try clear z_wpp x_wpp f_wpp l_wpp);(try clear z_wp x_wp f_wp l_wp);(try clear z_w x_w f_w l_w);obtain ⟨z_wppp,z_wpp,z_wp,z_w⟩:=zz;obtain ⟨x_wppp,f_wppp,l_wppp⟩:=bO z_wppp;obtain ⟨x_wpp,f_wpp,l_wpp⟩:=bO z_wpp;obtain ⟨x_wp,f_wp,l_wp⟩:=bO z_wp;obtain ⟨x_w,f_w,l_w⟩:=bO z_w
  clear hO hbw3
  have hoff1:∀ j,w.heap.size≤j→j<w.heap.size+1+1+1+1→y1.ownBlock≠some j:=fun j h1 h2=>fY1.off b1 h1 (by (try simp) <;> omega);have hoff2:∀ j,w.heap.size≤j→j<w.heap.size+1+1+1+1→y2.ownBlock≠some j:=fun j h1 h2=>fY2.off b2 h1 (by (try simp) <;> omega);have fr1:Fresh w _ y1:=fun j hj=>(fY1 j hj).imp id (fun h=>Nat.le_trans (by (try simp) <;> omega) h);have fr2:Fresh w _ y2:=fun j hj=>(fY2 j hj).imp id (fun h=>Nat.le_trans (by (try simp) <;> omega) h);obtain ⟨ya,yp,rfl,_⟩:=oY1.seg;obtain ⟨yb,yq,rfl,_⟩:=oY2.seg
  go_wp2
  refine bodyPost_ret (res_cct Try.results32 rfl (ldChan x.1 (.slice ya x.1.cells.length yp) (.slice yb x.1.words.length yq) (by simp [go_sem, *])) rfl (ldHand x.2.1 (by simp [go_sem, *]))) rfl ⟨⟨_,_,rfl,?_,?_,fr1,fr2⟩,by (repeat (first|with_reducible assumption|with_reducible refine oA ?_|with_reducible refine oD ?_|((with_reducible refine oX ?_ ?_);rotate_left;(focus ((try dsimp only);(try simp);(try omega))))|((with_reducible refine oS ?_ ?_);rotate_left;(focus ((try dsimp only);(try simp);(try omega))))))⟩
  · exact zP oY1 oY1 hoff1
  · exact zP oY2 oY2 hoff2
theorem sendTouch_any (c:Ch) (h:Ha) (hc:chanOk c=true) (hh:handOk h=true):∃ x:St,sendStep c h=fin7 x∧∀ (v1 v2:Value) (lo:Nat) (W:World),OCells W lo v1 c.cells→OInts W lo v2 c.words→lo≤W.heap.size→Calls Try.prog 32 #[.agg (cvals c v1 v2),.agg (hvals h)] W fun r w'=>StepO W w' lo v1 v2 x r:=by
  cases hk:(h.code != 1) with
  | true =>
    have hk2:¬ h.code=1:=by simpa using hk
    exact ⟨nothing,by simp [sendStep,stepOk,hk2];rfl,fun v1 v2 lo W o1 o2 _=>sendTouch_no c h v1 v2 lo W o1 o2 hk⟩
  | false =>
    have hk1:h.code=1:=by simpa using hk
    have hr:0≤h.pos∧h.pos≠0∧callOk h.code h.elem=true:=by
      have:=hh
      simp only [handOk,handA,Bool.and_eq_true,inB_iff] at this
      by_cases h0:h.pos=0
      · simp [h0,noCall,hk1] at this
      · simp [h0] at this
        exact ⟨this.1.1.1,h0,this.1.2⟩
    obtain ⟨hr0,hr1,hcall⟩:=hr
    obtain ⟨hc0,hc9⟩:=hand_cell hh
    have hc1:h.cell<c.cells.length:=by have:=(chan_len hc).1;omega
    by_cases hp9:9≤h.pos
    · have hno:stepOk c h 1 8 1=false:=by
        have:inB h.pos 1 8=false:=by simp [inB];omega
        simp [stepOk,this]
      exact ⟨nothing,by simp [sendStep,hno];rfl,fun v1 v2 lo W o1 o2 _=>sendTouch_far c h v1 v2 lo W o1 o2 hk hp9⟩
    have hok:stepOk c h 1 8 1=true:=by
      have:inB h.pos 1 8=true:=by simp [inB];omega
      simp [stepOk,hc,hh,this,hk1]
    have hps:h.pos=1∨h.pos=2∨h.pos=3∨h.pos=4∨h.pos=5∨h.pos=6∨h.pos=7∨h.pos=8:=by omega
    rcases hps with hp|hp|hp|hp|hp|hp|hp|hp
    · by_cases hs:c.sent=40
      · skip
        refine ⟨(c,resting 4 0,true),?_,fun v1 v2 lo W o1 o2 hl=>sendTouch_via 84 1 ((c,resting 4 0,true)) c h v1 v2 lo W o1 o2 hl hk1 hp (by omega) rfl (fun args w=>by simp [go_sem]) (fun v1 v2 lo W o1 o2 hl=>sendNumber_a c h v1 v2 lo W o1 o2 hs)⟩
        rw [fin76 _ (.inl rfl)]
        simp [sendStep,hok,hp,send1,hs,fin_ok]
      · skip
        refine ⟨({ c with sent:=c.sent+1 },{ h with cell:=c.sent,pos:=2 },true),?_,fun v1 v2 lo W o1 o2 hl=>sendTouch_via 84 1 (({ c with sent:=c.sent+1 },{ h with cell:=c.sent,pos:=2 },true)) c h v1 v2 lo W o1 o2 hl hk1 hp (by omega) rfl (fun args w=>by simp [go_sem]) (fun v1 v2 lo W o1 o2 hl=>sendNumber_b c h v1 v2 lo W o1 o2 hs (chan_sent hc))⟩
        rw [fin76 _ (.inl rfl)]
        simp [sendStep,hok,hp,send1,hs,fin_ok]
    · skip
      refine ⟨(layC c h.cell h.elem,{ h with pos:=3 },true),?_,fun v1 v2 lo W o1 o2 hl=>sendTouch_via 85 2 ((layC c h.cell h.elem,{ h with pos:=3 },true)) c h v1 v2 lo W o1 o2 hl hk1 hp (by omega) rfl (fun args w=>by simp [go_sem]) (fun v1 v2 lo W o1 o2 hl=>sendLay_any c h v1 v2 lo W o1 o2 hc0 hc1)⟩
      rw [fin76 _ (.inl rfl)]
      simp [sendStep,hok,hp,send2,fin_ok]
    · have el:sendStep c h=fin6 (lk6 c h):=by
        simp only [sendStep,hok,hp,send3]
        cases hl:(look6 c h).2 <;> simp [lk6,hl,fin6,nothing]
      refine ⟨lk6 c h,el.trans (fin76 _ (lk_ok c h)).symm,?_⟩
      by_cases hn:(cellAt c h.cell).s=0∨(cellAt c h.cell).s=1∨(cellAt c h.cell).s=4∨(cellAt c h.cell).s=8∨(cellAt c h.cell).s=10
      · refine fun v1 v2 lo W o1 o2 hl=>sendTouch_via 86 3 (lk6 c h) c h v1 v2 lo W o1 o2 hl hk1 hp (by omega) rfl (fun args w=>by simp [go_sem]) (fun v1 v2 lo W o1 o2 hl=>?_)
        rcases hn with hn|hn|hn|hn|hn
        · exact sendLook_0 c h v1 v2 lo W o1 o2 hc0 hc1 hn
        · exact sendLook_1 c h v1 v2 lo W o1 o2 hc0 hc1 hn
        · exact sendLook_4 c h v1 v2 lo W o1 o2 hc0 hc1 hn
        · exact sendLook_8 c h v1 v2 lo W o1 o2 hc0 hc1 hn hcall
        · exact sendLook_10 c h v1 v2 lo W o1 o2 hc0 hc1 hn hcall
      · have n0:((cellAt c h.cell).s == 0)=false:=by simp;omega
        have n1:((cellAt c h.cell).s == 1)=false:=by simp;omega
        have n4:((cellAt c h.cell).s == 4)=false:=by simp;omega
        have n8:((cellAt c h.cell).s == 8)=false:=by simp;omega
        have n10:((cellAt c h.cell).s == 10)=false:=by simp;omega
        have eno:lk6 c h=nothing:=by
          simp only [lk6,look6_at rfl (cellAt c h.cell).s rfl,n0,n1,n4,n8,n10]
          rfl
        rw [eno]
        exact fun v1 v2 lo W o1 o2 hl=>sendTouch_via 86 3 nothing c h v1 v2 lo W o1 o2 hl hk1 hp (by omega) rfl (fun args w=>by simp [go_sem]) (fun v1 v2 lo W o1 o2 hl=>sendLook_no c h v1 v2 lo W o1 o2 hc0 hc1 n0 n1 n4 n8 n10)
    · skip
      refine ⟨(c,{ h with fin:=c.fin,pos:=5 },true),?_,fun v1 v2 lo W o1 o2 hl=>sendTouch_via 87 4 ((c,{ h with fin:=c.fin,pos:=5 },true)) c h v1 v2 lo W o1 o2 hl hk1 hp (by omega) rfl (fun args w=>by simp [go_sem]) (fun v1 v2 lo W o1 o2 hl=>sendEnd_any c h v1 v2 lo W o1 o2)⟩
      rw [fin76 _ (.inl rfl)]
      simp [sendStep,hok,hp,fin_ok]
    · skip
      refine ⟨(c,{ h with come:=c.got,pos:=6 },true),?_,fun v1 v2 lo W o1 o2 hl=>sendTouch_via 88 5 ((c,{ h with come:=c.got,pos:=6 },true)) c h v1 v2 lo W o1 o2 hl hk1 hp (by omega) rfl (fun args w=>by simp [go_sem]) (fun v1 v2 lo W o1 o2 hl=>sendCome_any c h v1 v2 lo W o1 o2)⟩
      rw [fin76 _ (.inl rfl)]
      simp [sendStep,hok,hp,fin_ok]
    · skip
      refine ⟨putS c h,?_,fun v1 v2 lo W o1 o2 hl=>sendTouch_via 89 6 (putS c h) c h v1 v2 lo W o1 o2 hl hk1 hp (by omega) rfl (fun args w=>by simp [go_sem]) (fun v1 v2 lo W o1 o2 hl=>sendPut_any c h v1 v2 lo W o1 o2 hc0 hc1 hc hl)⟩
      rw [fin76 _ (put_ok c h),fin_put c h (by omega)]
      simp [sendStep,hok,hp]
    · skip
      refine ⟨cl6 c h,?_,fun v1 v2 lo W o1 o2 hl=>sendTouch_via 90 7 (cl6 c h) c h v1 v2 lo W o1 o2 hl hk1 hp (by omega) rfl (fun args w=>by simp [go_sem]) (fun v1 v2 lo W o1 o2 hl=>sendCall_any c h v1 v2 lo W o1 o2 hc hl hcall)⟩
      rw [fin76 _ (by unfold cl6 wkS;split <;> exact .inl rfl)]
      unfold cl6 wkS
      cases ht:tellB c h.wait 1 with
      | true=>simp [sendStep,hok,hp,call6,ht,fin_ok]
      | false=>simp [sendStep,hok,hp,call6,ht,fin_ok,tellC_no ht]
    · skip
      refine ⟨(stateC c h.cell 7,resting 1 0,true),?_,fun v1 v2 lo W o1 o2 hl=>sendTouch_via 91 8 ((stateC c h.cell 7,resting 1 0,true)) c h v1 v2 lo W o1 o2 hl hk1 hp (by omega) rfl (fun args w=>by simp [go_sem]) (fun v1 v2 lo W o1 o2 hl=>sendDone_any c h v1 v2 lo W o1 o2 hc0 hc1)⟩
      rw [fin76 _ (.inl rfl)]
      simp [sendStep,hok,hp,fin_ok]
set_option maxRecDepth 100000 in
set_option maxHeartbeats 2000000 in
theorem sendStepI_any (c:Ch) (h:Ha) (a b:Option Addr) (p q:Nat) (w:World) (h1:Seg w w.heap.size a c.cells.length 3 (cellF c.cells)) (z1:a=none→p=0) (h2:Seg w w.heap.size b c.words.length 1 (intF c.words)) (z2:b=none→q=0) (l1:c.cells.length≤maxLen) (l2:c.words.length≤maxLen) :
    Calls Try.prog 9 #[.agg (cvals c (.slice a c.cells.length p) (.slice b c.words.length q)),.agg (hvals h)] w fun r w'=>StepN w w' (sendStep c h) r:=by
  have K:∀ (w:World),Seg w w.heap.size a c.cells.length 3 (cellF c.cells)→(a=none→p=0)→Seg w w.heap.size b c.words.length 1 (intF c.words)→(b=none→q=0)→Calls Try.prog 31 #[.func (.func 32) #[] #[],.agg (cvals c (.slice a c.cells.length p) (.slice b c.words.length q)),.agg (hvals h)] w fun r w'=>StepN w w' (sendStep c h) r:=by
    intro w h1 z1 h2 z2
    cases hc:chanOk c with
    | false =>
      rw [show sendStep c h=nothing by simp [sendStep,stepOk,hc]]
      exact touched_no1 _ c h a b p q w h1 z1 h2 z2 l1 l2 hc
    | true =>
      cases hh:handOk h with
      | false =>
        rw [show sendStep c h=nothing by simp [sendStep,stepOk,hh]]
        exact touched_no2 _ c h a b p q w h1 z1 h2 z2 l1 l2 hc hh
      | true =>
        obtain ⟨x,e,HT⟩:=sendTouch_any c h hc hh
        rw [e]
        exact touched_via _ x c h a b p q w h1 z1 h2 z2 hc hh (fun args w=>by simp [go_sem]) HT
  generalize sendStep c h=x at *
  have T:=Lib.hid K
  have H1:=Lib.hid h1
  have H2:=Lib.hid h2
  have Z1:=Lib.hid z1
  have Z2:=Lib.hid z2
  clear h1 h2 z1 z2 K
  have d1:∀ j,(Value.slice none 0 0).ownBlock=some j→w.heap.size+1+1+1+1≤j:=fun j hj=>by cases hj
  have d2:=d1
  go_enter Try.func9,Try.ntmps9
  go_wp2_with fail;refine bHit w (by exact zB) fun bb=>?_;refine (T.out _ ((H1.out.below bb).more bb.size) Z1.out ((H2.out.below bb).more bb.size) Z2.out).mono ?_;rintro _ w9 ⟨⟨y1,y2,rfl,oY1,oY2,fY1,fY2⟩,hbw9⟩;have hCw9:Below w.heap.size w w9:=bT bb hbw9;have hsw9:=hbw9.size;(try simp at hsw9);have zz:=q4 hbw9 (b:=w.heap.size);(try simp [go_sem] at zz);(try clear z_wppp x_wppp f_wppp l_wppp);(try clear z_wpp x_wpp f_wpp l_wpp);(try clear z_wp x_wp f_wp l_wp);(try clear z_w x_w f_w l_w);obtain ⟨z_wppp,z_wpp,z_wp,z_w⟩:=zz;obtain ⟨x_wppp,f_wppp,l_wppp⟩:=bO z_wppp;obtain ⟨x_wpp,f_wpp,l_wpp⟩:=bO z_wpp;obtain ⟨x_wp,f_wp,l_wp⟩:=bO z_wp;obtain ⟨x_w,f_w,l_w⟩:=bO z_w;clear hbw9 bb
  replace oY1:OCells w9 w.heap.size y1 x.1.cells:=own_lo oY1 (by simp;omega)
  replace oY2:OInts w9 w.heap.size y2 x.1.words:=own_lo oY2 (by simp;omega)
  have hoff1:∀ j,w.heap.size≤j→j<w.heap.size+1+1+1+1→y1.ownBlock≠some j:=fun j _ h2=>fY1.off2 d1 h2 (by (try simp) <;> omega);have hoff2:∀ j,w.heap.size≤j→j<w.heap.size+1+1+1+1→y2.ownBlock≠some j:=fun j _ h2=>fY2.off2 d2 h2 (by (try simp) <;> omega);have fr1:Fresh w (.slice none 0 0) y1:=fun j hj=>.inr (fY1.up d1 (by (try simp) <;> omega) (by (try simp) <;> omega) j hj);have fr2:Fresh w (.slice none 0 0) y2:=fun j hj=>.inr (fY2.up d2 (by (try simp) <;> omega) (by (try simp) <;> omega) j hj);obtain ⟨ya,yp,rfl,_⟩:=oY1.seg;obtain ⟨yb,yq,rfl,_⟩:=oY2.seg
  go_wp2
  refine bodyPost_ret (res_cct Try.results9 rfl (ldChan x.1 (.slice ya x.1.cells.length yp) (.slice yb x.1.words.length yq) (by simp [go_sem, *])) rfl (ldHand x.2.1 (by simp [go_sem, *]))) rfl ⟨⟨_,_,rfl,?_,?_,fr1,fr2⟩,by exact zB⟩
  · exact zP oY1 oY1 hoff1
  · exact zP oY2 oY2 hoff2
end Go.Proofs.Ytajopaegmocnlaa
set_option linter.unusedSimpArgs false
set_option linter.unusedVariables false
namespace Go.Proofs.Ytajopaegmocnlaa
structure De where
  task:Int
  code:Int
  elem:Int
  beg:Int
  fin:Int
  reply:Int
  out:Int
structure Wo where
  ch:Ch
  hands:List Ha
  deals:List De
  now:Int
def Wo.zero:Wo:=⟨Ch.zero,[],[],0⟩
def De.zero:De:=⟨0,0,0,0,0,0,0⟩
def taskB (n:Nat) (who:Int):Bool:=inB who 0 ((n:Int) - 1)
def dealB (n:Nat) (now:Int) (d:De):Bool:=taskB n d.task && (replyOk d.code d.elem d.reply && (inB d.beg 0 now && (inB d.fin 0 now && inB d.out 0 999)))
def handB11 (now:Int) (h:Ha):Bool:=handOk h && decide (h.beg≤now)
def worldHead (x:Wo):Bool:=chanOk x.ch && (decide (1≤x.hands.length) && (decide (x.hands.length≤6) && (decide (x.deals.length≤1000) && inB x.now 0 20000)))
def worldOk (x:Wo):Bool:=worldHead x && (x.hands.all (handB11 x.now) && x.deals.all (dealB x.hands.length x.now))
def handAt (x:Wo) (who:Int):Ha:=x.hands.getD who.toNat Ha.zero
def setHand (x:Wo) (who:Int) (h:Ha):Wo:={ x with hands:=x.hands.set who.toNat h }
def taskOk (x:Wo) (who:Int):Bool:=taskB x.hands.length who
/-- What a step makes of a world. -/
def stepW (x:Wo) (who:Int) (s:St):Wo × Bool :=
  if !s.2.2 || x.now == 20000 then (x,false)
  else if s.2.1.pos != 0 then ({ setHand x who s.2.1 with now:=x.now+1,ch:=s.1 },true)
  else if decide (1000≤x.deals.length) || !replyOk (handAt x who).code (handAt x who).elem s.2.1.reply then (x,false)
  else ({ setHand x who s.2.1 with now:=x.now+1,ch:=s.1,deals:=x.deals ++ [⟨who,(handAt x who).code,(handAt x who).elem,(handAt x who).beg,x.now+1,s.2.1.reply,s.2.1.out⟩] },true)
def step11 (x:Wo) (who:Int):Wo × Bool:=stepW x who (stepC x.ch (handAt x who))
/-- At most that many steps of one who is not at rest: the world, and how many. -/
def aloneN:Nat→Wo→Int→Wo × Nat
  | 0,x,_=>(x,0)
  | n+1,x,who=>if (handAt x who).pos == 0 then (x,0) else if (step11 x who).2 then ((aloneN n (step11 x who).1 who).1,(aloneN n (step11 x who).1 who).2+1) else (x,0)
def alone (x:Wo) (who most:Int):Wo × Int :=
  if worldOk x && taskOk x who then (if inB most 0 20000 then ((aloneN most.toNat x who).1,(aloneN most.toNat x who).2) else (x,-1)) else (Wo.zero,-1)
end Go.Proofs.Ytajopaegmocnlaa
set_option linter.unusedSimpArgs false
set_option linter.unusedVariables false
namespace Go.Proofs.Ytajopaegmocnlaa
/-- One who has waited, and goes on to be parked or to end. -/
def Ph (h:Ha):Prop:=(16≤h.pos∧h.pos≤22∧h.nxt=1)∨23≤h.pos
/-- What a step leaves. -/
def Good (c:Ch) (h:Ha) (s:St):Prop:=s.2.2=true→chanOk s.1=true∧handOk s.2.1=true∧(s.2.1.beg=h.beg∨s.2.1.beg=0) ∧
  ((s.1.words.length=c.words.length∧(Ph h→Ph s.2.1∨s.2.1.pos=0))∨(s.1.words.length=c.words.length+1∧¬ Ph h∧Ph s.2.1))
theorem good_no (c:Ch) (h:Ha) (a:Ch) (b:Ha):Good c h (a,b,false):=fun e=>by cases e
theorem good_nothing (c:Ch) (h:Ha):Good c h nothing:=fun e=>by cases e
theorem good_done {c:Ch} {h:Ha} {c':Ch} {h':Ha} (hb:h'.beg=h.beg∨h'.beg=0) (hw:(c'.words.length=c.words.length∧(Ph h→Ph h'∨h'.pos=0))∨(c'.words.length=c.words.length+1∧¬ Ph h∧Ph h')):Good c h (done c' h'):=by
  unfold done
  split
  · rename_i e
    simp at e
    exact fun _=>⟨e.1,e.2,hb,hw⟩
  · exact good_nothing c h
theorem tell_len (c:Ch) (v x:Int):(tellC c v x).words.length=c.words.length:=by unfold tellC;split <;> simp
theorem anew_beg (h:Ha):(anew h).beg=h.beg:=rfl
theorem grown_beg (h:Ha):(grown8 h).beg=h.beg∨(grown8 h).beg=0:=by unfold grown8;split <;> (try split) <;> simp [resting,anew_beg]
theorem grown_ph {h h':Ha} (e:h'.nxt=h.nxt) (hp:h.pos≤22) (H:Ph h):Ph (grown8 h')∨(grown8 h').pos=0:=by
  have hn:h.nxt=1:=by
    rcases H with H|H
    · exact H.2.2
    · omega
  left
  unfold grown8
  rw [e,hn]
  right
  simp
theorem good_send {c:Ch} {h:Ha} (hl:¬ Ph h):Good c h (sendStep c h):=by
  have K:∀ {c':Ch} {h':Ha},(h'.beg=h.beg∨h'.beg=0)→c'.words.length=c.words.length→Good c h (done c' h'):=fun hb hw=>good_done hb (.inl ⟨hw,fun H=>absurd H hl⟩)
  unfold sendStep
  repeat' split
  all_goals try exact good_nothing c h
  · unfold send1;split
    · exact K (.inr rfl) rfl
    · exact K (.inl rfl) rfl
  · exact K (.inl rfl) rfl
  · unfold send3 look6
    simp only
    repeat' split
    all_goals first|exact good_nothing c h|exact K (.inl rfl) rfl
  · exact K (.inl rfl) rfl
  · exact K (.inl rfl) rfl
  · unfold put6 wait6
    repeat' split
    all_goals first|exact good_nothing c h|exact K (.inr rfl) rfl|exact K (.inl rfl) rfl|skip
    exact good_done (.inl rfl) (.inr ⟨by simp,hl,.inr (by show (23:Int)≤23;omega)⟩)
  · unfold call6
    refine K ?_ (tell_len _ _ _)
    simp only
    split <;> exact .inl rfl
  · exact K (.inr rfl) rfl
theorem good_recv {c:Ch} {h:Ha} (hl:¬ Ph h):Good c h (recvStep c h):=by
  have K:∀ {c':Ch} {h':Ha},(h'.beg=h.beg∨h'.beg=0)→c'.words.length=c.words.length→Good c h (done c' h'):=fun hb hw=>good_done hb (.inl ⟨hw,fun H=>absurd H hl⟩)
  unfold recvStep
  repeat' split
  all_goals try exact good_nothing c h
  · unfold recv1;split
    · exact K (.inr rfl) rfl
    · exact K (.inl rfl) rfl
  · unfold recv2 view7
    simp only
    repeat' split
    all_goals first|exact good_nothing c h|exact good_no c h _ _|exact K (.inl rfl) rfl
  · exact K (.inl rfl) rfl
  · unfold take7 turn7 wait6 then7
    repeat' split
    all_goals first|exact good_nothing c h|exact K (.inr rfl) rfl|exact K (.inl rfl) rfl|skip
    all_goals first|exact good_done (.inl rfl) (.inr ⟨by simp,hl,.inl ⟨by simp,by simp,rfl⟩⟩)|skip
    all_goals simp_all
  · unfold wake7
    exact K (.inl rfl) (tell_len _ _ _)
  · exact K (.inl rfl) rfl
  · exact K (.inl rfl) rfl
theorem good_grow {c:Ch} {h:Ha} (hp0:16≤h.pos) (hp:h.pos≤22):Good c h (growStep c h):=by
  have N:Ph h→h.nxt=1:=fun H=>by
    rcases H with H|H
    · exact H.2.2
    · omega
  have K:∀ {c':Ch} {h':Ha},(h'.beg=h.beg∨h'.beg=0)→c'.words.length=c.words.length→h'.nxt=h.nxt→(16≤h'.pos∧h'.pos≤22)→Good c h (done c' h'):=fun hb hw e q=>good_done hb (.inl ⟨hw,fun H=>.inl (.inl ⟨q.1,q.2,e.trans (N H)⟩)⟩)
  have G:∀ {c':Ch} {h':Ha},h'.beg=h.beg→c'.words.length=c.words.length→h'.nxt=h.nxt→Good c h (done c' (grown8 h')):=fun {c' h'} hb hw e=>good_done (by rw [← hb];exact grown_beg h') (.inl ⟨hw,fun H=>grown_ph e hp H⟩)
  unfold growStep
  repeat' split
  all_goals try exact good_nothing c h
  · unfold begin8
    split
    · exact G rfl rfl rfl
    · exact K (.inl rfl) rfl rfl ⟨by simp,by simp⟩
  · exact G rfl rfl rfl
  · exact K (.inl rfl) rfl rfl ⟨by simp,by simp⟩
  · unfold meetStep meet8
    simp only
    repeat' split
    all_goals first|exact good_no c h _ _|exact K (.inl rfl) rfl rfl ⟨by simp [seenAs],by simp [seenAs]⟩|exact G rfl rfl rfl
  · unfold pull8 turn8
    repeat' split
    all_goals first|exact good_nothing c h|exact K (.inl rfl) rfl rfl ⟨by simp,by simp⟩|exact G rfl rfl rfl
  · unfold raise8
    exact K (.inl rfl) (tell_len _ _ _) rfl ⟨by simp only;split <;> omega,by simp only;split <;> omega⟩
  · exact G rfl rfl rfl
  · exact K (.inl rfl) rfl rfl ⟨by simp,by simp⟩
theorem good_park (c:Ch) (h:Ha):Good c h (parkStep c h):=by
  have K:∀ {c':Ch} {h':Ha},(h'.beg=h.beg∨h'.beg=0)→c'.words.length=c.words.length→(23≤h'.pos∨h'.pos=0)→Good c h (done c' h'):=fun hb hw q=>good_done hb (.inl ⟨hw,fun _=>q.imp (fun q=>.inr q) id⟩)
  unfold parkStep
  repeat' split
  all_goals try exact good_nothing c h
  · unfold park9
    repeat' split
    all_goals first|exact good_no c h _ _|exact K (.inr rfl) rfl (.inr rfl)|exact K (.inl rfl) rfl (.inl (by simp))
  · exact K (.inr rfl) rfl (.inr rfl)
  · exact K (.inr rfl) rfl (.inr rfl)
theorem good_step (c:Ch) (h:Ha):Good c h (stepC c h):=by
  unfold stepC
  split
  · rename_i e
    simp [inB] at e
    exact good_send (by unfold Ph;omega)
  · split
    · rename_i e
      simp [inB] at e
      exact good_recv (by unfold Ph;omega)
    · split
      · rename_i e
        simp [inB] at e
        exact good_grow e.1 e.2
      · exact good_park c h
end Go.Proofs.Ytajopaegmocnlaa
set_option linter.unusedSimpArgs false
set_option linter.unusedVariables false
namespace Go.Proofs.Ytajopaegmocnlaa
/-- A right world, said at length. -/
structure RightW (x:Wo):Prop where
  ch:chanOk x.ch=true
  h1:1≤x.hands.length
  h6:x.hands.length≤6
  d:x.deals.length≤1000
  n0:0≤x.now
  n1:x.now≤20000
  hs:∀ h ∈ x.hands,handOk h=true∧h.beg≤x.now
  ds:∀ d ∈ x.deals,dealB x.hands.length x.now d=true
theorem hand_parts {h:Ha} (e:handOk h=true):0≤h.beg∧h.beg≤20000∧inB h.out 0 999=true:=by
  simp only [handOk,handC,Bool.and_eq_true,inB_iff] at e
  obtain ⟨_,_,_,_,_,⟨b0,b1⟩,_,o⟩:=e
  exact ⟨b0,b1,by simpa [inB] using o⟩
theorem chan_parts {c:Ch} (e:chanOk c=true):c.cells.length=40∧c.words.length≤80:=by
  simp only [chanOk,chanHead,Bool.and_eq_true,decide_eq_true_eq] at e
  exact ⟨e.1.2.2.2.2.1,e.1.2.2.2.2.2⟩
theorem deal_later {n:Nat} {a b:Int} {d:De} (h:dealB n a d=true) (hab:a≤b):dealB n b d=true:=by
  simp only [dealB,Bool.and_eq_true,inB_iff] at h ⊢
  obtain ⟨h1,h2,h3,h4,h5⟩:=h
  exact ⟨h1,h2,⟨h3.1,by omega⟩,⟨h4.1,by omega⟩,h5⟩
theorem task_lt {x:Wo} {who:Int} (h:taskOk x who=true):0≤who∧who.toNat<x.hands.length:=by
  simp [taskOk,taskB,inB] at h
  omega
theorem hand_mem {x:Wo} {who:Int} (h:taskOk x who=true):handAt x who ∈ x.hands:=by
  have:=(task_lt h).2
  unfold handAt
  rw [List.getD_eq_getElem?_getD,List.getElem?_eq_getElem this]
  exact List.getElem_mem this
theorem set_mem {l:List Ha} {i:Nat} {h y:Ha} (m:y ∈ l.set i h):y ∈ l∨y=h:=List.mem_or_eq_of_mem_set m
theorem hand_set {x:Wo} {who:Int} (h:taskOk x who=true) (y:Ha):(x.hands.set who.toNat y).getD who.toNat Ha.zero=y:=by
  have:=(task_lt h).2
  simp [List.getD,this]
/-- A hand and the channel are turned, and it is one later. -/
theorem right_next {x:Wo} {who:Int} {c:Ch} {h:Ha} {ds:List De} (hx:RightW x) (hc:chanOk c=true) (hh:handOk h=true) (hb:h.beg≤x.now+1) (hn:x.now≠20000) (hl:ds.length≤1000) (hd:∀ d ∈ ds,dealB x.hands.length (x.now+1) d=true) :
    RightW ⟨c,x.hands.set who.toNat h,ds,x.now+1⟩:=by
  have:=hx.n0;have:=hx.n1
  refine ⟨hc,by simpa using hx.h1,by simpa using hx.h6,hl,by simp only;omega,by simp only;omega,?_,by simpa using hd⟩
  intro y m
  rcases set_mem m with m|rfl
  · have:=hx.hs y m
    exact ⟨this.1,by simp only;omega⟩
  · exact ⟨hh,hb⟩
theorem deals_later {x:Wo} (hx:RightW x):∀ d ∈ x.deals,dealB x.hands.length (x.now+1) d=true:=fun d m=>deal_later (hx.ds d m) (by omega)
/-- What a step of one who has a task makes. -/
theorem step_right {x:Wo} {who:Int} (hx:RightW x) (ht:taskOk x who=true) (hs:(step11 x who).2=true) :
    RightW (step11 x who).1∧(step11 x who).1.hands.length=x.hands.length∧handAt (step11 x who).1 who=(stepC x.ch (handAt x who)).2.1∧(step11 x who).1.ch=(stepC x.ch (handAt x who)).1∧(stepC x.ch (handAt x who)).2.2=true:=by
  have G:=good_step x.ch (handAt x who)
  have hm:=hx.hs _ (hand_mem ht)
  have hp:=hand_parts hm.1
  generalize hS:stepC x.ch (handAt x who)=S at G ⊢
  have e:step11 x who=stepW x who S:=by rw [step11,hS]
  rw [e] at hs ⊢
  unfold stepW at hs ⊢
  split at hs
  · cases hs
  · rename_i h0
    rw [if_neg h0]
    simp at h0
    obtain ⟨h2,hn⟩:=h0
    obtain ⟨g1,g2,g3,_⟩:=G h2
    have hb:S.2.1.beg≤x.now+1:=by rcases g3 with g3|g3 <;> omega
    split at hs
    · rename_i h3
      rw [if_pos h3]
      exact ⟨right_next hx g1 g2 hb hn hx.d (deals_later hx),by simp [setHand],hand_set ht _,rfl,h2⟩
    · rename_i h3
      rw [if_neg h3]
      split at hs
      · cases hs
      · rename_i h4
        rw [if_neg h4]
        simp at h4
        refine ⟨right_next hx g1 g2 hb hn (by simp;omega) ?_,by simp [setHand],hand_set ht _,rfl,h2⟩
        intro d m
        rcases List.mem_append.1 m with m|m
        · exact deals_later hx d m
        · simp at m
          subst m
          have hq:=hand_parts g2
          have:=hx.n0
          simp only [dealB,Bool.and_eq_true,inB_iff]
          refine ⟨ht,h4.2,⟨hp.1,by omega⟩,⟨by omega,by omega⟩,by simpa [inB] using hq.2.2⟩
end Go.Proofs.Ytajopaegmocnlaa
