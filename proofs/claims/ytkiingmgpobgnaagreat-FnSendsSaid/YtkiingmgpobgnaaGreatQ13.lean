/-
  The program's asking ahead of and behind a touch, whatever the touch, on hands and channels that are kept whole; lists lie in memory.
  The program's touch of sending, every case, and its step, on hands and channels that are kept whole; lists lie in memory and hold at most as much as memory can hold.
  The program's looking at a cell, on hands and channels that are kept whole; the lists are the call's own.
  The program's touch of sending, every case, and its step, on hands and channels that are kept whole; lists lie in memory and hold at most as much as memory can hold.
  FnSends returns true for every list of bytes that it is called with, and turns nothing; no condition.
  How the arguments of the laws are opened: numbers, structs of numbers, and slices of these; no condition but that they can be read.
  How a list of bytes is opened that is an argument of a law; no condition but that it can be read.
  FnSends returns true for every list of bytes that it is called with, and turns nothing; no condition.
-/
import Derived.Test.YtkiingmgpobgnaaGreatQ12
import Derived.Test.YtkiingmgpobgnaaGreatQ06
import Derived.Laws.EntriesVeiled
import Derived.BigRegion
import Derived.Deep.DeepCutAuto
import Derived.Deep.RegionHeld3
import Derived.Test.YtkiingmgpobgnaaGreatQ10
import Derived.Test.YtkiingmgpobgnaaGreatQ11
import Derived.Test.YtkiingmgpobgnaaGreatRows
import Derived.Test.YtkiingmgpobgnaaGreatQ01
import Derived.ProofKit
import Derived.OpenShut
import Derived.ShutString
import Derived.ChangeOld
import Derived.Deep.Slices
import Derived.Deep.Fields
set_option linter.unusedSimpArgs false
set_option linter.unusedVariables false
namespace Go.Proofs.YtkiingmgpobgnaaGreat
open Go.RowKit
set_option linter.unusedSimpArgs false
attribute [local simp] bx_size
attribute [local go_sem ↓] zeroHand zeroChan toLHand toLChan toVHand toVChan storeHand storeChan storeHandC storeChanC
theorem iChanOk_any (c:Ch) (a b:Option Addr) (p q:Nat) (w:World) (h1:Seg w w.heap.size a c.cells.length 3 (cellF c.cells)) (h2:Seg w w.heap.size b c.words.length 1 (intF c.words)) (m1:c.cells.length≤maxLen) (m2:c.words.length≤maxLen) :
    Calls Tryz.prog 10 #[.agg (cvals c (.slice a c.cells.length p) (.slice b c.words.length q))] w fun r w'=>r=.returned (.bool (chanOk c))∧Below w.heap.size w w':=chanOk_any c a b p q w h1 h2 m1 m2
theorem iCopied_any (c:Ch) (a b:Option Addr) (p q:Nat) (w:World) (h1:Seg w w.heap.size a c.cells.length 3 (cellF c.cells)) (z1:a=none→p=0) (h2:Seg w w.heap.size b c.words.length 1 (intF c.words)) (z2:b=none→q=0) (m1:c.cells.length≤1099511627776) (m2:c.words.length≤1099511627776) :
    Calls Tryz.prog 56 #[.agg (cvals c (.slice a c.cells.length p) (.slice b c.words.length q))] w fun r w'=>(∃ v1 v2,r=.returned (.agg (cvals c v1 v2))∧OCells w' w.heap.size v1 c.cells∧OInts w' w.heap.size v2 c.words)∧Below w.heap.size w w':=copied_any c a b p q w h1 z1 h2 z2 m1 m2
/-- What is answered behind a touch. -/
def fin7 (x:St):St:=if chanOk x.1 && handOk x.2.1 then x else nothing
theorem own_max {w:World} {lo:Nat} {e:TypeId} {k n p:Nat} {a:Option Addr} {xs:List Value} (h:w.ownsRow lo e k (.slice a n p) n xs):n≤maxLen:=by
  rcases h.2 with ⟨_,h1⟩|⟨g,cap,cur,_,_,_,h1,h2,_⟩
  · omega
  · exact Nat.le_trans h1 h2
theorem hp_onl {w w':World} {v1 v2:Value} {lo lo' b k k' n n':Nat} {e e' T:TypeId} {x:Array Value} {xs xs':List Value} (hz:hp w b=some (.cells x T)) (hO:Onl v1.ownBlock v2.ownBlock w w') (o1:w.ownsRow lo e k v1 n xs) (o2:w.ownsRow lo' e' k' v2 n' xs') (h1:e≠T) (h2:e'≠T):hp w' b=some (.cells x T) :=
  (onlHp hO (bO hz).2.2 (fun e=>own_offs o1 hz h1 _ e.symm rfl) (fun e=>own_offs o2 hz h2 _ e.symm rfl)).trans hz
theorem IsBox.onl {w w':World} {v v1 v2:Value} {lo lo1 lo2 k k' n n':Nat} {e e' T:TypeId} {x:Array Value} {xs xs':List Value} (h:IsBox w v lo x T) (hO:Onl v1.ownBlock v2.ownBlock w w') (o1:w.ownsRow lo1 e k v1 n xs) (o2:w.ownsRow lo2 e' k' v2 n' xs') (h1:e≠T) (h2:e'≠T):IsBox w' v lo x T:=by
  obtain ⟨b,eb,hl,hz⟩:=h
  exact ⟨b,eb,hl,hp_onl hz hO o1 o2 h1 h2⟩
set_option maxRecDepth 100000 in
set_option maxHeartbeats 8000000 in
theorem touched_via (F:Nat) (x:St) (c:Ch) (h:Ha) (a b:Option Addr) (p q:Nat) (w:World) (h1:Seg w w.heap.size a c.cells.length 3 (cellF c.cells)) (z1:a=none→p=0) (h2:Seg w w.heap.size b c.words.length 1 (intF c.words)) (z2:b=none→q=0) (hc:chanOk c=true) (hh:handOk h=true) (eg:∀ args w,(callFunc F args).run Tryz.prog w=.ok (.enter F args) w) (HF:∀ (v1 v2:Value) (lo:Nat) (W:World),OCells W lo v1 c.cells→OInts W lo v2 c.words→lo≤W.heap.size→Calls Tryz.prog F #[.agg (cvals c v1 v2),.agg (hvals h)] W fun r w'=>StepO W w' lo v1 v2 x r) :
    Calls Tryz.prog 21 #[.func (.func F) #[] #[],.agg (cvals c (.slice a c.cells.length p) (.slice b c.words.length q)),.agg (hvals h)] w fun r w'=>StepN w w' (fin7 x) r:=by
  obtain ⟨n1,n2⟩:=chan_len hc
  have l1:c.cells.length≤maxLen:=by unfold maxLen;omega
  have l2:c.words.length≤maxLen:=by unfold maxLen;omega
  have m1:c.cells.length≤1099511627776:=by omega
  have m2:c.words.length≤1099511627776:=by omega
  have H1:=Lib.hid h1
  have H2:=Lib.hid h2
  have Z1:=Lib.hid z1
  have Z2:=Lib.hid z2
  clear h1 h2 z1 z2 n1 n2
  obtain ⟨X,hXe⟩:∃ X,X=fin7 x:=⟨_,rfl⟩
  rw [← hXe]
  have HFF:=Lib.hid HF
  clear HF
  go_enter Tryz.func21,Tryz.ntmps21
  go_wp2_with fail;refine bHit w (by exact zB) fun bb=>?_;refine (iChanOk_any c a b p q _ ((H1.out.below bb).more bb.size) ((H2.out.below bb).more bb.size) l1 l2).mono ?_;rintro _ w1 ⟨rfl,hbw1⟩;have hCw1:Below w.heap.size w w1:=bT bb hbw1;have hsw1:=hbw1.size;(try simp at hsw1);have zz:=q4 hbw1 (b:=w.heap.size);(try simp [go_sem] at zz);(try clear z_wppp x_wppp f_wppp l_wppp);(try clear z_wpp x_wpp f_wpp l_wpp);(try clear z_wp x_wp f_wp l_wp);(try clear z_w x_w f_w l_w);obtain ⟨z_wppp,z_wpp,z_wp,z_w⟩:=zz;obtain ⟨x_wppp,f_wppp,l_wppp⟩:=bO z_wppp;obtain ⟨x_wpp,f_wpp,l_wpp⟩:=bO z_wpp;obtain ⟨x_wp,f_wp,l_wp⟩:=bO z_wp;obtain ⟨x_w,f_w,l_w⟩:=bO z_w;clear hbw1 bb
  rw [hc]
  go_wp2_with fail;refine bHit w (by exact zB) fun bb=>?_;refine (handOk_any h _).mono ?_;rintro _ w2 ⟨rfl,hbw2⟩;have hCw2:Below w.heap.size w w2:=bT bb hbw2;have hsw2:=hbw2.size;(try simp at hsw2);have zz:=q4 hbw2 (b:=w.heap.size);(first|simp [go_sem,z_wppp,z_wpp,z_wp,z_w,l_w,l_wp,l_wpp,l_wppp] at zz|simp [go_sem] at zz|skip);(try clear z_wppp x_wppp f_wppp l_wppp);(try clear z_wpp x_wpp f_wpp l_wpp);(try clear z_wp x_wp f_wp l_wp);(try clear z_w x_w f_w l_w);obtain ⟨z_wppp,z_wpp,z_wp,z_w⟩:=zz;obtain ⟨x_wppp,f_wppp,l_wppp⟩:=bO z_wppp;obtain ⟨x_wpp,f_wpp,l_wpp⟩:=bO z_wpp;obtain ⟨x_wp,f_wp,l_wp⟩:=bO z_wp;obtain ⟨x_w,f_w,l_w⟩:=bO z_w;clear hbw2 bb
  rw [hh]
  go_upto_region 3 with fail
  refine wp_region_inv [[],[],[1],[],[0,1,2,3],[0,1,2,3,4],[0,1,2,3,4,5],[0,1,2,3,4,5],[0,1,2,3,4,5],[],[],[0,1,2,3,4,5,6,9],[0,1,2,3,4,5,7,10],[0,1,2,3,4,5,8]] [25,26,27,28,29,24,30,31,32,9,10,11] (fun l s wx=>(Below w2.heap.size w2 wx)∧(l 0=true→s 25=.func (.func F) #[] #[])∧(l 1=true→s 26=.agg (cvals c (.slice a c.cells.length p) (.slice b c.words.length q)))∧(l 2=true→l 4=false→s 27=.agg (cvals c (s 1001) (s 1002))∧OCells wx w2.heap.size (s 1001) c.cells∧OInts wx w2.heap.size (s 1002) c.words)∧(l 3=true→s 28=.agg (hvals h))∧(l 4=true→s 29=.tuple #[.agg (cvals x.1 (s 1003) (s 1004)),.agg (hvals x.2.1),.bool x.2.2]∧OCells wx w2.heap.size (s 1003) x.1.cells∧OInts wx w2.heap.size (s 1004) x.1.words)∧(l 5=true→s 24=.tuple #[.agg (cvals x.1 (s 1003) (s 1004)),.agg (hvals x.2.1),.bool x.2.2])∧(l 6=true→s 30=.agg (cvals x.1 (s 1003) (s 1004)))∧(l 7=true→s 31=.agg (hvals x.2.1))∧(l 8=true→s 32=.bool x.2.2)∧(l 9=true→IsBox wx (s 9) w2.heap.size (cond (l 11) (cvals x.1 (s 1003) (s 1004)) (cvals Ch.zero (.slice none 0 0) (.slice none 0 0))) 27)∧(l 10=true→IsBox wx (s 10) w2.heap.size (cond (l 12) (hvals x.2.1) (hvals Ha.zero)) 31)∧(l 13=true→s 11=.bool x.2.2)) (by kernel_rfl) (by kernel_rfl) (by kernel_rfl) (fun s=>by (simp only [fill,fillA,List.setIfInBounds_toArray,List.set_cons_zero,List.set_cons_succ];rfl)) (fun s=>⟨(Below.refl _ _).drew,fun h=>absurd h Bool.false_ne_true,fun h=>absurd h Bool.false_ne_true,fun h=>absurd h Bool.false_ne_true,fun h=>absurd h Bool.false_ne_true,fun h=>absurd h Bool.false_ne_true,fun h=>absurd h Bool.false_ne_true,fun h=>absurd h Bool.false_ne_true,fun h=>absurd h Bool.false_ne_true,fun h=>absurd h Bool.false_ne_true,fun h=>absurd h Bool.false_ne_true,fun h=>absurd h Bool.false_ne_true,fun h=>absurd h Bool.false_ne_true⟩) ?_ ?_
  refine ⟨?_,?_,?_,?_,?_,?_,?_,?_,?_,?_,?_,?_,?_,?_,trivial⟩;rotate_left 14
  · intro l s w8 hall hf
    have hB:=hf.1
    obtain ⟨_,oX1,oX2⟩:=(hf.2.2.2.2.2.1 (hall 4 rfl))
    obtain ⟨gc,ea,hgc,z_gc⟩:=(hf.2.2.2.2.2.2.2.2.2.2.1 (hall 9 rfl))
    obtain ⟨gh,eb,hgh,z_gh⟩:=(hf.2.2.2.2.2.2.2.2.2.2.2.1 (hall 10 rfl))
    have ec:=(hf.2.2.2.2.2.2.2.2.2.2.2.2 (hall 13 rfl))
    rw [hall 11 rfl] at z_gc
    rw [hall 12 rfl] at z_gh
    dsimp only [cond] at z_gc z_gh
    simp only [ea,eb,ec]
    clear ea eb ec hf hall
    generalize s 1003=v1 at *
    generalize s 1004=v2 at *
    have hCw8:Below w.heap.size w w8:=bT hCw2 hB
    have z8:=hpS z_wpp hB
    have z9:=hpS z_wppp hB
    have hq2:=(bO z_wppp).2.2
    clear z_w x_w f_w l_w z_wp x_wp f_wp l_wp z_wpp x_wpp f_wpp l_wpp z_wppp x_wppp f_wppp l_wppp
    have z_wpp:=z8
    have z_wppp:=z9
    clear z8 z9
    have hz8:=hB.size
    have hg0:w.heap.size+1+1<gc:=by omega
    have hg1:w.heap.size+1+1+1<gc:=by omega
    have hg2:w.heap.size+1+1<gh:=by omega
    have hg3:w.heap.size+1+1+1<gh:=by omega
    clear HFF
    obtain ⟨c2,h2,ok⟩:=x
    replace oX1:OCells w8 (w.heap.size+1+1+1+1) v1 c2.cells:=own_lo oX1 (by omega)
    replace oX2:OInts w8 (w.heap.size+1+1+1+1) v2 c2.words:=own_lo oX2 (by omega)
    dsimp only at z_gc z_gh ⊢
    obtain ⟨ya,yp,rfl,G1⟩:=oX1.seg
    obtain ⟨yb,yq,rfl,G2⟩:=oX2.seg
    obtain ⟨x_gc,f_gc,l_gc⟩:=bO z_gc
    obtain ⟨x_gh,f_gh,l_gh⟩:=bO z_gh
    obtain ⟨x_wpp,f_wpp,l_wpp⟩:=bO z_wpp
    obtain ⟨x_wppp,f_wppp,l_wppp⟩:=bO z_wppp
    have L1:=own_max oX1
    have L2:=own_max oX2
    have K1:=Lib.hid G1
    have K2:=Lib.hid G2
    clear G1 G2
    have T:=Lib.hid fun W=>refused_any W w.heap.size (.slice none 0 0) (.slice none 0 0)
    have d1:∀ j,(Value.slice none 0 0).ownBlock=some j→w.heap.size+1+1+1+1≤j:=fun j hj=>by cases hj
    have d2:=d1
    cases hc2:chanOk c2 with
    | false =>
      have E:X=nothing:=hXe.trans (by simp [fin7,hc2])
      rw [← E] at T
      clear E hXe
      go_wp2_with fail
      refine (iChanOk_any c2 ya yb yp yq _ ((K1.out.below (by exact zB)).more (by (try simp) <;> omega)) ((K2.out.below (by exact zB)).more (by (try simp) <;> omega)) L1 L2).mono ?_
      rintro _ w9 ⟨rfl,hbw9⟩
      have hCw9:Below w.heap.size w w9:=bT (by exact zB) hbw9
      have hKw9:Below w8.heap.size w8 w9:=bT (by exact zB) hbw9
      have hsw9:=hbw9.size;(try (simp at hsw9));have zz:=hQ hbw9 (b:=gc);(first|(simp [go_sem,z_gc,l_gc] at zz)|(simp [go_sem] at zz));(try clear x_gc f_gc);(try clear z_gc);have z_gc:=zz;clear zz;(try clear l_gc);obtain ⟨x_gc,f_gc,l_gc⟩:=bO z_gc;have zz:=hQ hbw9 (b:=gh);(first|(simp [go_sem,z_gh,l_gh] at zz)|(simp [go_sem] at zz));(try clear x_gh f_gh);(try clear z_gh);have z_gh:=zz;clear zz;(try clear l_gh);obtain ⟨x_gh,f_gh,l_gh⟩:=bO z_gh;have zz:=hQ hbw9 (b:=w.heap.size+1+1);(first|(simp [go_sem,z_wpp,l_wpp] at zz)|(simp [go_sem] at zz));(try clear x_wpp f_wpp);(try clear z_wpp);have z_wpp:=zz;clear zz;(try clear l_wpp);obtain ⟨x_wpp,f_wpp,l_wpp⟩:=bO z_wpp;have zz:=hQ hbw9 (b:=w.heap.size+1+1+1);(first|(simp [go_sem,z_wppp,l_wppp] at zz)|(simp [go_sem] at zz));(try clear x_wppp f_wppp);(try clear z_wppp);have z_wppp:=zz;clear zz;(try clear l_wppp);obtain ⟨x_wppp,f_wppp,l_wppp⟩:=bO z_wppp
      rw [hc2]
      go_wp2_with fail
      refine (T.out _).mono ?_
      rintro _ w11 ⟨⟨y1,y2,rfl,oY1,oY2,fY1,fY2⟩,hbw11⟩
      have hCw11:Below w.heap.size w w11:=bT (by exact zB) hbw11
      have hsw11:=hbw11.size;(try (simp at hsw11));have zz:=hQ hbw11 (b:=w.heap.size+1+1);(first|(simp [go_sem,z_wpp,l_wpp] at zz)|(simp [go_sem] at zz));(try clear x_wpp f_wpp);(try clear z_wpp);have z_wpp:=zz;clear zz;(try clear l_wpp);obtain ⟨x_wpp,f_wpp,l_wpp⟩:=bO z_wpp;have zz:=hQ hbw11 (b:=w.heap.size+1+1+1);(first|(simp [go_sem,z_wppp,l_wppp] at zz)|(simp [go_sem] at zz));(try clear x_wppp f_wppp);(try clear z_wppp);have z_wppp:=zz;clear zz;(try clear l_wppp);obtain ⟨x_wppp,f_wppp,l_wppp⟩:=bO z_wppp
      have hoff1:∀ j,w.heap.size≤j→j<w.heap.size+1+1+1+1→y1.ownBlock≠some j:=fun j _ h2=>fY1.off2 d1 h2 (by (try simp) <;> omega);have hoff2:∀ j,w.heap.size≤j→j<w.heap.size+1+1+1+1→y2.ownBlock≠some j:=fun j _ h2=>fY2.off2 d2 h2 (by (try simp) <;> omega);have fr1:Fresh w (.slice none 0 0) y1:=fun j hj=>.inr (fY1.up d1 (by (try simp) <;> omega) (by (try simp) <;> omega) j hj);have fr2:Fresh w (.slice none 0 0) y2:=fun j hj=>.inr (fY2.up d2 (by (try simp) <;> omega) (by (try simp) <;> omega) j hj);obtain ⟨ya,yp,rfl,_⟩:=oY1.seg;obtain ⟨yb,yq,rfl,_⟩:=oY2.seg
      go_wp2
      refine bodyPost_ret (res_cct Tryz.results21 rfl (ldChan X.1 (.slice ya X.1.cells.length yp) (.slice yb X.1.words.length yq) (by simp [go_sem, *])) rfl (ldHand X.2.1 (by simp [go_sem, *]))) rfl ⟨⟨_,_,rfl,?_,?_,fr1,fr2⟩,by exact zB⟩
      · exact zP oY1 oY1 hoff1
      · exact zP oY2 oY2 hoff2
    | true =>
      cases hh2:handOk h2 with
      | false =>
        have E:X=nothing:=hXe.trans (by simp [fin7,hh2])
        rw [← E] at T
        clear E hXe
        go_wp2_with fail
        refine (iChanOk_any c2 ya yb yp yq _ ((K1.out.below (by exact zB)).more (by (try simp) <;> omega)) ((K2.out.below (by exact zB)).more (by (try simp) <;> omega)) L1 L2).mono ?_
        rintro _ w9 ⟨rfl,hbw9⟩
        have hCw9:Below w.heap.size w w9:=bT (by exact zB) hbw9
        have hKw9:Below w8.heap.size w8 w9:=bT (by exact zB) hbw9
        have hsw9:=hbw9.size;(try (simp at hsw9));have zz:=hQ hbw9 (b:=gc);(first|(simp [go_sem,z_gc,l_gc] at zz)|(simp [go_sem] at zz));(try clear x_gc f_gc);(try clear z_gc);have z_gc:=zz;clear zz;(try clear l_gc);obtain ⟨x_gc,f_gc,l_gc⟩:=bO z_gc;have zz:=hQ hbw9 (b:=gh);(first|(simp [go_sem,z_gh,l_gh] at zz)|(simp [go_sem] at zz));(try clear x_gh f_gh);(try clear z_gh);have z_gh:=zz;clear zz;(try clear l_gh);obtain ⟨x_gh,f_gh,l_gh⟩:=bO z_gh;have zz:=hQ hbw9 (b:=w.heap.size+1+1);(first|(simp [go_sem,z_wpp,l_wpp] at zz)|(simp [go_sem] at zz));(try clear x_wpp f_wpp);(try clear z_wpp);have z_wpp:=zz;clear zz;(try clear l_wpp);obtain ⟨x_wpp,f_wpp,l_wpp⟩:=bO z_wpp;have zz:=hQ hbw9 (b:=w.heap.size+1+1+1);(first|(simp [go_sem,z_wppp,l_wppp] at zz)|(simp [go_sem] at zz));(try clear x_wppp f_wppp);(try clear z_wppp);have z_wppp:=zz;clear zz;(try clear l_wppp);obtain ⟨x_wppp,f_wppp,l_wppp⟩:=bO z_wppp
        rw [hc2]
        go_wp2_with fail
        refine (handOk_any h2 _).mono ?_
        rintro _ w10 ⟨rfl,hbw10⟩
        have hCw10:Below w.heap.size w w10:=bT (by exact zB) hbw10
        have hKw10:Below w8.heap.size w8 w10:=bT (by exact zB) hbw10
        have hsw10:=hbw10.size;(try (simp at hsw10));have zz:=hQ hbw10 (b:=gc);(first|(simp [go_sem,z_gc,l_gc] at zz)|(simp [go_sem] at zz));(try clear x_gc f_gc);(try clear z_gc);have z_gc:=zz;clear zz;(try clear l_gc);obtain ⟨x_gc,f_gc,l_gc⟩:=bO z_gc;have zz:=hQ hbw10 (b:=gh);(first|(simp [go_sem,z_gh,l_gh] at zz)|(simp [go_sem] at zz));(try clear x_gh f_gh);(try clear z_gh);have z_gh:=zz;clear zz;(try clear l_gh);obtain ⟨x_gh,f_gh,l_gh⟩:=bO z_gh;have zz:=hQ hbw10 (b:=w.heap.size+1+1);(first|(simp [go_sem,z_wpp,l_wpp] at zz)|(simp [go_sem] at zz));(try clear x_wpp f_wpp);(try clear z_wpp);have z_wpp:=zz;clear zz;(try clear l_wpp);obtain ⟨x_wpp,f_wpp,l_wpp⟩:=bO z_wpp;have zz:=hQ hbw10 (b:=w.heap.size+1+1+1);(first|(simp [go_sem,z_wppp,l_wppp] at zz)|(simp [go_sem] at zz));(try clear x_wppp f_wppp);(try clear z_wppp);have z_wppp:=zz;clear zz;(try clear l_wppp);obtain ⟨x_wppp,f_wppp,l_wppp⟩:=bO z_wppp
        rw [hh2]
        have r1:=own_below oX1 hKw10
        have r2:=own_below oX2 hKw10
        go_wp2_with fail
        refine (T.out _).mono ?_
        rintro _ w11 ⟨⟨y1,y2,rfl,oY1,oY2,fY1,fY2⟩,hbw11⟩
        have hCw11:Below w.heap.size w w11:=bT (by exact zB) hbw11
        have hsw11:=hbw11.size;(try (simp at hsw11));have zz:=hQ hbw11 (b:=w.heap.size+1+1);(first|(simp [go_sem,z_wpp,l_wpp] at zz)|(simp [go_sem] at zz));(try clear x_wpp f_wpp);(try clear z_wpp);have z_wpp:=zz;clear zz;(try clear l_wpp);obtain ⟨x_wpp,f_wpp,l_wpp⟩:=bO z_wpp;have zz:=hQ hbw11 (b:=w.heap.size+1+1+1);(first|(simp [go_sem,z_wppp,l_wppp] at zz)|(simp [go_sem] at zz));(try clear x_wppp f_wppp);(try clear z_wppp);have z_wppp:=zz;clear zz;(try clear l_wppp);obtain ⟨x_wppp,f_wppp,l_wppp⟩:=bO z_wppp
        have hoff1:∀ j,w.heap.size≤j→j<w.heap.size+1+1+1+1→y1.ownBlock≠some j:=fun j _ h2=>fY1.off2 d1 h2 (by (try simp) <;> omega);have hoff2:∀ j,w.heap.size≤j→j<w.heap.size+1+1+1+1→y2.ownBlock≠some j:=fun j _ h2=>fY2.off2 d2 h2 (by (try simp) <;> omega);have fr1:Fresh w (.slice none 0 0) y1:=fun j hj=>.inr (fY1.up d1 (by (try simp) <;> omega) (by (try simp) <;> omega) j hj);have fr2:Fresh w (.slice none 0 0) y2:=fun j hj=>.inr (fY2.up d2 (by (try simp) <;> omega) (by (try simp) <;> omega) j hj);obtain ⟨ya,yp,rfl,_⟩:=oY1.seg;obtain ⟨yb,yq,rfl,_⟩:=oY2.seg
        go_wp2
        refine bodyPost_ret (res_cct Tryz.results21 rfl (ldChan X.1 (.slice ya X.1.cells.length yp) (.slice yb X.1.words.length yq) (by simp [go_sem, *])) rfl (ldHand X.2.1 (by simp [go_sem, *]))) rfl ⟨⟨_,_,rfl,?_,?_,fr1,fr2⟩,by exact zB⟩
        · exact zP oY1 oY1 hoff1
        · exact zP oY2 oY2 hoff2
      | true =>
        have E:=Lib.hid (hXe.trans (show fin7 (c2,h2,ok)=(c2,h2,ok) by simp [fin7,hc2,hh2]))
        clear hXe
        go_wp2_with fail
        refine (iChanOk_any c2 ya yb yp yq _ ((K1.out.below (by exact zB)).more (by (try simp) <;> omega)) ((K2.out.below (by exact zB)).more (by (try simp) <;> omega)) L1 L2).mono ?_
        rintro _ w9 ⟨rfl,hbw9⟩
        have hCw9:Below w.heap.size w w9:=bT (by exact zB) hbw9
        have hKw9:Below w8.heap.size w8 w9:=bT (by exact zB) hbw9
        have hsw9:=hbw9.size;(try (simp at hsw9));have zz:=hQ hbw9 (b:=gc);(first|(simp [go_sem,z_gc,l_gc] at zz)|(simp [go_sem] at zz));(try clear x_gc f_gc);(try clear z_gc);have z_gc:=zz;clear zz;(try clear l_gc);obtain ⟨x_gc,f_gc,l_gc⟩:=bO z_gc;have zz:=hQ hbw9 (b:=gh);(first|(simp [go_sem,z_gh,l_gh] at zz)|(simp [go_sem] at zz));(try clear x_gh f_gh);(try clear z_gh);have z_gh:=zz;clear zz;(try clear l_gh);obtain ⟨x_gh,f_gh,l_gh⟩:=bO z_gh;have zz:=hQ hbw9 (b:=w.heap.size+1+1);(first|(simp [go_sem,z_wpp,l_wpp] at zz)|(simp [go_sem] at zz));(try clear x_wpp f_wpp);(try clear z_wpp);have z_wpp:=zz;clear zz;(try clear l_wpp);obtain ⟨x_wpp,f_wpp,l_wpp⟩:=bO z_wpp;have zz:=hQ hbw9 (b:=w.heap.size+1+1+1);(first|(simp [go_sem,z_wppp,l_wppp] at zz)|(simp [go_sem] at zz));(try clear x_wppp f_wppp);(try clear z_wppp);have z_wppp:=zz;clear zz;(try clear l_wppp);obtain ⟨x_wppp,f_wppp,l_wppp⟩:=bO z_wppp
        rw [hc2]
        go_wp2_with fail
        refine (handOk_any h2 _).mono ?_
        rintro _ w10 ⟨rfl,hbw10⟩
        have hCw10:Below w.heap.size w w10:=bT (by exact zB) hbw10
        have hKw10:Below w8.heap.size w8 w10:=bT (by exact zB) hbw10
        have hsw10:=hbw10.size;(try (simp at hsw10));have zz:=hQ hbw10 (b:=gc);(first|(simp [go_sem,z_gc,l_gc] at zz)|(simp [go_sem] at zz));(try clear x_gc f_gc);(try clear z_gc);have z_gc:=zz;clear zz;(try clear l_gc);obtain ⟨x_gc,f_gc,l_gc⟩:=bO z_gc;have zz:=hQ hbw10 (b:=gh);(first|(simp [go_sem,z_gh,l_gh] at zz)|(simp [go_sem] at zz));(try clear x_gh f_gh);(try clear z_gh);have z_gh:=zz;clear zz;(try clear l_gh);obtain ⟨x_gh,f_gh,l_gh⟩:=bO z_gh;have zz:=hQ hbw10 (b:=w.heap.size+1+1);(first|(simp [go_sem,z_wpp,l_wpp] at zz)|(simp [go_sem] at zz));(try clear x_wpp f_wpp);(try clear z_wpp);have z_wpp:=zz;clear zz;(try clear l_wpp);obtain ⟨x_wpp,f_wpp,l_wpp⟩:=bO z_wpp;have zz:=hQ hbw10 (b:=w.heap.size+1+1+1);(first|(simp [go_sem,z_wppp,l_wppp] at zz)|(simp [go_sem] at zz));(try clear x_wppp f_wppp);(try clear z_wppp);have z_wppp:=zz;clear zz;(try clear l_wppp);obtain ⟨x_wppp,f_wppp,l_wppp⟩:=bO z_wppp
        rw [hh2]
        have r1:=own_below oX1 hKw10
        have r2:=own_below oX2 hKw10
        go_wp2_with fail
        go_region
        go_wp2
        refine bodyPost_ret (res_cct Tryz.results21 rfl (ldChan c2 (.slice ya c2.cells.length yp) (.slice yb c2.words.length yq) (by simp [go_sem, *])) rfl (ldHand h2 (by simp [go_sem, *]))) rfl ⟨⟨.slice ya c2.cells.length yp,.slice yb c2.words.length yq,by rw [E.out];rfl,?_,?_,fun j hj=>.inr (by have:=(oX1.lt j hj).1;omega),fun j hj=>.inr (by have:=(oX2.lt j hj).1;omega)⟩,by exact zB⟩
        · rw [E.out]
          refine own_lo (lo:=w.heap.size+1+1+1+1) ?_ (by omega)
          exact zO r1 oX1
        · rw [E.out]
          refine own_lo (lo:=w.heap.size+1+1+1+1) ?_ (by omega)
          exact zO r2 oX2
  · intro l s wx hl hd hn hf0 K hK
    have hf:=Lib.hid hf0
    clear hf0
    go_simp
    refine hK.out (upd s 25 (.func (.func F) #[] #[])) _ _ (by simp [upd_at] <;> rfl) ⟨hf.out.1,fun _=>rfl,hf.out.2.2.1,hf.out.2.2.2.1,hf.out.2.2.2.2.1,nU (hn 4 rfl),nU (hn 5 rfl),nU (hn 6 rfl),nU (hn 7 rfl),nU (hn 8 rfl),hf.out.2.2.2.2.2.2.2.2.2.2.1,hf.out.2.2.2.2.2.2.2.2.2.2.2.1,nU (hn 13 rfl)⟩
  · intro l s wx hl hd hn hf0 K hK
    have hf:=Lib.hid hf0
    clear hf0
    have z:=hpS z_w hf.out.1
    go_simp
    refine hK.out (upd s 26 (.agg (cvals c (.slice a c.cells.length p) (.slice b c.words.length q)))) _ _ (by simp [upd_at] <;> rfl) ⟨hf.out.1,hf.out.2.1,fun _=>rfl,nU (hn 2 rfl),hf.out.2.2.2.2.1,nU (hn 4 rfl),nU (hn 5 rfl),nU (hn 6 rfl),nU (hn 7 rfl),nU (hn 8 rfl),hf.out.2.2.2.2.2.2.2.2.2.2.1,hf.out.2.2.2.2.2.2.2.2.2.2.2.1,nU (hn 13 rfl)⟩
  · intro l s wx hl hd hn hf0 K hK
    have hf:=Lib.hid hf0
    clear hf0
    have e1:=(hf.out.2.2.1 (hd 1 rfl))
    go_simp
    go_at_call 56
    refine (iCopied_any c a b p q _ ((H1.out.below (bT hCw2 hf.out.1)).more (Below.size (bT hCw2 hf.out.1))) Z1.out ((H2.out.below (bT hCw2 hf.out.1)).more (Below.size (bT hCw2 hf.out.1))) Z2.out m1 m2).mono ?_
    rintro _ wy ⟨⟨v1,v2,rfl,X1,X2⟩,hE⟩
    refine hK.out (upd (upd (upd s 1001 (v1)) 1002 (v2)) 27 (.agg (cvals c v1 v2))) _ _ (by simp [upd_at,e1] <;> rfl) ⟨bT hf.out.1 hE,hf.out.2.1,hf.out.2.2.1,fun _ _=>⟨rfl,own_lo X1 (Below.size hf.out.1),own_lo X2 (Below.size hf.out.1)⟩,hf.out.2.2.2.2.1,nU (hn 4 rfl),nU (hn 5 rfl),nU (hn 6 rfl),nU (hn 7 rfl),nU (hn 8 rfl),fun h=>IsBox.below (hf.out.2.2.2.2.2.2.2.2.2.2.1 h) hE,fun h=>IsBox.below (hf.out.2.2.2.2.2.2.2.2.2.2.2.1 h) hE,nU (hn 13 rfl)⟩
  · intro l s wx hl hd hn hf0 K hK
    have hf:=Lib.hid hf0
    clear hf0
    have z:=hpS z_wp hf.out.1
    go_simp
    refine hK.out (upd s 28 (.agg (hvals h))) _ _ (by simp [upd_at] <;> rfl) ⟨hf.out.1,hf.out.2.1,hf.out.2.2.1,hf.out.2.2.2.1,fun _=>rfl,nU (hn 4 rfl),nU (hn 5 rfl),nU (hn 6 rfl),nU (hn 7 rfl),nU (hn 8 rfl),hf.out.2.2.2.2.2.2.2.2.2.2.1,hf.out.2.2.2.2.2.2.2.2.2.2.2.1,nU (hn 13 rfl)⟩
  · intro l s wx hl hd hn hf0 K hK
    have hf:=Lib.hid hf0
    clear hf0
    have e0:=(hf.out.2.1 (hd 0 rfl))
    have e3:=(hf.out.2.2.2.2.1 (hd 3 rfl))
    obtain ⟨e2,o1,o2⟩:=(hf.out.2.2.2.1 (hd 2 rfl)) hl
    go_simp
    refine (HFF.out _ _ w2.heap.size _ o1 o2 (Below.size hf.out.1)).mono ?_
    rintro _ wy ⟨⟨y1,y2,rfl,X1,X2,_,_⟩,hO⟩
    refine hK.out (upd (upd (upd s 1003 (y1)) 1004 (y2)) 29 (.tuple #[.agg (cvals x.1 y1 y2),.agg (hvals x.2.1),.bool x.2.2])) _ _ (by simp [upd_at,e0,e3,e2] <;> rfl) ⟨bOnl hf.out.1 hO (fun j hj=>(o1.lt j hj).1) (fun j hj=>(o2.lt j hj).1),hf.out.2.1,hf.out.2.2.1,fun _ h4=>absurd h4 (by rw [show upd l 4 true 4=true from rfl];decide),hf.out.2.2.2.2.1,fun _=>⟨rfl,X1,X2⟩,nU (hn 5 rfl),nU (hn 6 rfl),nU (hn 7 rfl),nU (hn 8 rfl),fun h=>by (have ee:l 11=false:=hn 11 rfl);(have F:=hf.out.2.2.2.2.2.2.2.2.2.2.1 h);rw [ee] at F;rw [show upd l 4 true 11=false from ee];exact F.onl hO o1 o2 (by decide) (by decide),fun h=>by (have ee:l 12=false:=hn 12 rfl);(have F:=hf.out.2.2.2.2.2.2.2.2.2.2.2.1 h);rw [ee] at F;rw [show upd l 4 true 12=false from ee];exact F.onl hO o1 o2 (by decide) (by decide),nU (hn 13 rfl)⟩
  · intro l s wx hl hd hn hf0 K hK
    have hf:=Lib.hid hf0
    clear hf0
    have e4:=(hf.out.2.2.2.2.2.1 (hd 4 rfl)).1
    go_simp
    refine hK.out (upd s 24 (.tuple #[.agg (cvals x.1 (s 1003) (s 1004)),.agg (hvals x.2.1),.bool x.2.2])) _ _ (by simp [upd_at,e4] <;> rfl) ⟨hf.out.1,hf.out.2.1,hf.out.2.2.1,hf.out.2.2.2.1,hf.out.2.2.2.2.1,hf.out.2.2.2.2.2.1,fun _=>rfl,nU (hn 6 rfl),nU (hn 7 rfl),nU (hn 8 rfl),hf.out.2.2.2.2.2.2.2.2.2.2.1,hf.out.2.2.2.2.2.2.2.2.2.2.2.1,nU (hn 13 rfl)⟩
  · intro l s wx hl hd hn hf0 K hK
    have hf:=Lib.hid hf0
    clear hf0
    have e5:=(hf.out.2.2.2.2.2.2.1 (hd 5 rfl))
    go_simp
    refine hK.out (upd s 30 (.agg (cvals x.1 (s 1003) (s 1004)))) _ _ (by simp [upd_at,e5] <;> rfl) ⟨hf.out.1,hf.out.2.1,hf.out.2.2.1,hf.out.2.2.2.1,hf.out.2.2.2.2.1,hf.out.2.2.2.2.2.1,hf.out.2.2.2.2.2.2.1,fun _=>rfl,hf.out.2.2.2.2.2.2.2.2.1,hf.out.2.2.2.2.2.2.2.2.2.1,hf.out.2.2.2.2.2.2.2.2.2.2.1,hf.out.2.2.2.2.2.2.2.2.2.2.2.1,hf.out.2.2.2.2.2.2.2.2.2.2.2.2⟩
  · intro l s wx hl hd hn hf0 K hK
    have hf:=Lib.hid hf0
    clear hf0
    have e5:=(hf.out.2.2.2.2.2.2.1 (hd 5 rfl))
    go_simp
    refine hK.out (upd s 31 (.agg (hvals x.2.1))) _ _ (by simp [upd_at,e5] <;> rfl) ⟨hf.out.1,hf.out.2.1,hf.out.2.2.1,hf.out.2.2.2.1,hf.out.2.2.2.2.1,hf.out.2.2.2.2.2.1,hf.out.2.2.2.2.2.2.1,hf.out.2.2.2.2.2.2.2.1,fun _=>rfl,hf.out.2.2.2.2.2.2.2.2.2.1,hf.out.2.2.2.2.2.2.2.2.2.2.1,hf.out.2.2.2.2.2.2.2.2.2.2.2.1,hf.out.2.2.2.2.2.2.2.2.2.2.2.2⟩
  · intro l s wx hl hd hn hf0 K hK
    have hf:=Lib.hid hf0
    clear hf0
    have e5:=(hf.out.2.2.2.2.2.2.1 (hd 5 rfl))
    go_simp
    refine hK.out (upd s 32 (.bool x.2.2)) _ _ (by simp [upd_at,e5] <;> rfl) ⟨hf.out.1,hf.out.2.1,hf.out.2.2.1,hf.out.2.2.2.1,hf.out.2.2.2.2.1,hf.out.2.2.2.2.2.1,hf.out.2.2.2.2.2.2.1,hf.out.2.2.2.2.2.2.2.1,hf.out.2.2.2.2.2.2.2.2.1,fun _=>rfl,hf.out.2.2.2.2.2.2.2.2.2.2.1,hf.out.2.2.2.2.2.2.2.2.2.2.2.1,nU (hn 13 rfl)⟩
  · intro l s wx hl hd hn hf0 K hK
    have hf:=Lib.hid hf0
    clear hf0
    go_simp
    refine hK.out (upd s 9 (.pointer (some ⟨wx.heap.size,0,none⟩))) _ _ (by simp [upd_at] <;> rfl) ⟨bT hf.out.1 (belowAlloc _ _),hf.out.2.1,hf.out.2.2.1,fun h=>fun h4=>(let ⟨e,X1,X2⟩:=(hf.out.2.2.2.1 h) h4;⟨e,own_below X1 (belowAlloc _ _),own_below X2 (belowAlloc _ _)⟩),hf.out.2.2.2.2.1,fun h=>(let ⟨e,X1,X2⟩:=(hf.out.2.2.2.2.2.1 h);⟨e,own_below X1 (belowAlloc _ _),own_below X2 (belowAlloc _ _)⟩),hf.out.2.2.2.2.2.2.1,hf.out.2.2.2.2.2.2.2.1,hf.out.2.2.2.2.2.2.2.2.1,hf.out.2.2.2.2.2.2.2.2.2.1,fun _=>by rw [show upd l 9 true 11=false from hn 11 rfl];exact IsBox.new (Below.size hf.out.1),fun h=>IsBox.below (hf.out.2.2.2.2.2.2.2.2.2.2.2.1 h) (belowAlloc _ _),hf.out.2.2.2.2.2.2.2.2.2.2.2.2⟩
  · intro l s wx hl hd hn hf0 K hK
    have hf:=Lib.hid hf0
    clear hf0
    go_simp
    refine hK.out (upd s 10 (.pointer (some ⟨wx.heap.size,0,none⟩))) _ _ (by simp [upd_at] <;> rfl) ⟨bT hf.out.1 (belowAlloc _ _),hf.out.2.1,hf.out.2.2.1,fun h=>fun h4=>(let ⟨e,X1,X2⟩:=(hf.out.2.2.2.1 h) h4;⟨e,own_below X1 (belowAlloc _ _),own_below X2 (belowAlloc _ _)⟩),hf.out.2.2.2.2.1,fun h=>(let ⟨e,X1,X2⟩:=(hf.out.2.2.2.2.2.1 h);⟨e,own_below X1 (belowAlloc _ _),own_below X2 (belowAlloc _ _)⟩),hf.out.2.2.2.2.2.2.1,hf.out.2.2.2.2.2.2.2.1,hf.out.2.2.2.2.2.2.2.2.1,hf.out.2.2.2.2.2.2.2.2.2.1,fun h=>IsBox.below (hf.out.2.2.2.2.2.2.2.2.2.2.1 h) (belowAlloc _ _),fun _=>by rw [show upd l 10 true 12=false from hn 12 rfl];exact IsBox.new (Below.size hf.out.1),hf.out.2.2.2.2.2.2.2.2.2.2.2.2⟩
  · intro l s wx hl hd hn hf0 K hK
    have hf:=Lib.hid hf0
    clear hf0
    have e6:=(hf.out.2.2.2.2.2.2.2.1 (hd 6 rfl))
    have e4:=(hf.out.2.2.2.2.2.1 (hd 4 rfl))
    have X1:=e4.2.1
    have X2:=e4.2.2
    clear e4
    obtain ⟨bb,eb,hlo,zb⟩:=(hf.out.2.2.2.2.2.2.2.2.2.2.1 (hd 9 rfl))
    rw [hl] at zb
    dsimp only [cond] at zb
    obtain ⟨xa,xp,ea,_⟩:=X1.seg
    obtain ⟨xb,xq,eb2,_⟩:=X2.seg
    rw [ea,eb2] at e6
    have zn:hp (setBox wx bb (cvals x.1 (.slice xa x.1.cells.length xp) (.slice xb x.1.words.length xq))) bb=some (.cells (cvals x.1 (s 1003) (s 1004)) 27):=by rw [ea,eb2];exact hp_set zb
    go_simp
    refine hK.out (s) _ _ (by simp [upd_at,eb,e6,ea,eb2] <;> rfl) ⟨bBx hf.out.1 hlo,hf.out.2.1,hf.out.2.2.1,fun _ h4=>absurd ((hd 4 rfl).symm.trans h4) (by decide),hf.out.2.2.2.2.1,fun h=>⟨(hf.out.2.2.2.2.2.1 h).1,own_far (hf.out.2.2.2.2.2.1 h).2.1 zb (by decide),own_far (hf.out.2.2.2.2.2.1 h).2.2 zb (by decide)⟩,hf.out.2.2.2.2.2.2.1,hf.out.2.2.2.2.2.2.2.1,hf.out.2.2.2.2.2.2.2.2.1,hf.out.2.2.2.2.2.2.2.2.2.1,fun _=>⟨bb,eb,hlo,zn⟩,fun h=>IsBox.far (hf.out.2.2.2.2.2.2.2.2.2.2.2.1 h) zb (by decide),hf.out.2.2.2.2.2.2.2.2.2.2.2.2⟩
  · intro l s wx hl hd hn hf0 K hK
    have hf:=Lib.hid hf0
    clear hf0
    have e7:=(hf.out.2.2.2.2.2.2.2.2.1 (hd 7 rfl))
    have e4:=(hf.out.2.2.2.2.2.1 (hd 4 rfl))
    have X1:=e4.2.1
    have X2:=e4.2.2
    clear e4
    obtain ⟨bb,eb,hlo,zb⟩:=(hf.out.2.2.2.2.2.2.2.2.2.2.2.1 (hd 10 rfl))
    rw [hl] at zb
    dsimp only [cond] at zb
    have zn:hp (setBox wx bb (hvals x.2.1)) bb=some (.cells (hvals x.2.1) 31):=by exact hp_set zb
    go_simp
    refine hK.out (s) _ _ (by simp [upd_at,eb,e7] <;> rfl) ⟨bBx hf.out.1 hlo,hf.out.2.1,hf.out.2.2.1,fun _ h4=>absurd ((hd 4 rfl).symm.trans h4) (by decide),hf.out.2.2.2.2.1,fun h=>⟨(hf.out.2.2.2.2.2.1 h).1,own_far (hf.out.2.2.2.2.2.1 h).2.1 zb (by decide),own_far (hf.out.2.2.2.2.2.1 h).2.2 zb (by decide)⟩,hf.out.2.2.2.2.2.2.1,hf.out.2.2.2.2.2.2.2.1,hf.out.2.2.2.2.2.2.2.2.1,hf.out.2.2.2.2.2.2.2.2.2.1,fun h=>IsBox.far (hf.out.2.2.2.2.2.2.2.2.2.2.1 h) zb (by decide),fun _=>⟨bb,eb,hlo,zn⟩,hf.out.2.2.2.2.2.2.2.2.2.2.2.2⟩
  · intro l s wx hl hd hn hf0 K hK
    have hf:=Lib.hid hf0
    clear hf0
    have e8:=(hf.out.2.2.2.2.2.2.2.2.2.1 (hd 8 rfl))
    go_simp
    refine hK.out (upd s 11 (.bool x.2.2)) _ _ (by simp [upd_at,e8] <;> rfl) ⟨hf.out.1,hf.out.2.1,hf.out.2.2.1,hf.out.2.2.2.1,hf.out.2.2.2.2.1,hf.out.2.2.2.2.2.1,hf.out.2.2.2.2.2.2.1,hf.out.2.2.2.2.2.2.2.1,hf.out.2.2.2.2.2.2.2.2.1,hf.out.2.2.2.2.2.2.2.2.2.1,hf.out.2.2.2.2.2.2.2.2.2.2.1,hf.out.2.2.2.2.2.2.2.2.2.2.2.1,fun _=>rfl⟩
set_option maxRecDepth 100000 in
set_option maxHeartbeats 4000000 in
theorem touched_no1 (F:Nat) (c:Ch) (h:Ha) (a b:Option Addr) (p q:Nat) (w:World) (h1:Seg w w.heap.size a c.cells.length 3 (cellF c.cells)) (z1:a=none→p=0) (h2:Seg w w.heap.size b c.words.length 1 (intF c.words)) (z2:b=none→q=0) (l1:c.cells.length≤maxLen) (l2:c.words.length≤maxLen) (hc:chanOk c=false) :
    Calls Tryz.prog 21 #[.func (.func F) #[] #[],.agg (cvals c (.slice a c.cells.length p) (.slice b c.words.length q)),.agg (hvals h)] w fun r w'=>StepN w w' nothing r:=by
  have H1:=Lib.hid h1
  have H2:=Lib.hid h2
  have T:=Lib.hid fun W=>refused_any W w.heap.size (.slice none 0 0) (.slice none 0 0)
  generalize nothing=x at *
  clear h1 h2 z1 z2
  have d1:∀ j,(Value.slice none 0 0).ownBlock=some j→w.heap.size+1+1+1+1≤j:=fun j hj=>by cases hj
  have d2:=d1
  go_enter Tryz.func21,Tryz.ntmps21
  go_wp2_with fail;refine bHit w (by exact zB) fun bb=>?_;refine (iChanOk_any c a b p q _ ((H1.out.below bb).more bb.size) ((H2.out.below bb).more bb.size) l1 l2).mono ?_;rintro _ w1 ⟨rfl,hbw1⟩;have hCw1:Below w.heap.size w w1:=bT bb hbw1;have hsw1:=hbw1.size;(try simp at hsw1);have zz:=q4 hbw1 (b:=w.heap.size);(try simp [go_sem] at zz);(try clear z_wppp x_wppp f_wppp l_wppp);(try clear z_wpp x_wpp f_wpp l_wpp);(try clear z_wp x_wp f_wp l_wp);(try clear z_w x_w f_w l_w);obtain ⟨z_wppp,z_wpp,z_wp,z_w⟩:=zz;obtain ⟨x_wppp,f_wppp,l_wppp⟩:=bO z_wppp;obtain ⟨x_wpp,f_wpp,l_wpp⟩:=bO z_wpp;obtain ⟨x_wp,f_wp,l_wp⟩:=bO z_wp;obtain ⟨x_w,f_w,l_w⟩:=bO z_w;clear hbw1 bb
  rw [hc]
  go_wp2_with fail;refine bHit w (by exact zB) fun bb=>?_;refine (T.out _).mono ?_;rintro _ w9 ⟨⟨y1,y2,rfl,oY1,oY2,fY1,fY2⟩,hbw9⟩;have hCw9:Below w.heap.size w w9:=bT bb hbw9;have hsw9:=hbw9.size;(try simp at hsw9);have zz:=q4 hbw9 (b:=w.heap.size);(first|simp [go_sem,z_wppp,z_wpp,z_wp,z_w,l_w,l_wp,l_wpp,l_wppp] at zz|simp [go_sem] at zz|skip);(try clear z_wppp x_wppp f_wppp l_wppp);(try clear z_wpp x_wpp f_wpp l_wpp);(try clear z_wp x_wp f_wp l_wp);(try clear z_w x_w f_w l_w);obtain ⟨z_wppp,z_wpp,z_wp,z_w⟩:=zz;obtain ⟨x_wppp,f_wppp,l_wppp⟩:=bO z_wppp;obtain ⟨x_wpp,f_wpp,l_wpp⟩:=bO z_wpp;obtain ⟨x_wp,f_wp,l_wp⟩:=bO z_wp;obtain ⟨x_w,f_w,l_w⟩:=bO z_w;clear hbw9 bb
  have hoff1:∀ j,w.heap.size≤j→j<w.heap.size+1+1+1+1→y1.ownBlock≠some j:=fun j _ h2=>fY1.off2 d1 h2 (by (try simp) <;> omega);have hoff2:∀ j,w.heap.size≤j→j<w.heap.size+1+1+1+1→y2.ownBlock≠some j:=fun j _ h2=>fY2.off2 d2 h2 (by (try simp) <;> omega);have fr1:Fresh w (.slice none 0 0) y1:=fun j hj=>.inr (fY1.up d1 (by (try simp) <;> omega) (by (try simp) <;> omega) j hj);have fr2:Fresh w (.slice none 0 0) y2:=fun j hj=>.inr (fY2.up d2 (by (try simp) <;> omega) (by (try simp) <;> omega) j hj);obtain ⟨ya,yp,rfl,_⟩:=oY1.seg;obtain ⟨yb,yq,rfl,_⟩:=oY2.seg
  go_wp2
  refine bodyPost_ret (res_cct Tryz.results21 rfl (ldChan x.1 (.slice ya x.1.cells.length yp) (.slice yb x.1.words.length yq) (by simp [go_sem, *])) rfl (ldHand x.2.1 (by simp [go_sem, *]))) rfl ⟨⟨_,_,rfl,?_,?_,fr1,fr2⟩,by exact zB⟩
  · exact zP oY1 oY1 hoff1
  · exact zP oY2 oY2 hoff2
set_option maxRecDepth 100000 in
set_option maxHeartbeats 4000000 in
theorem touched_no2 (F:Nat) (c:Ch) (h:Ha) (a b:Option Addr) (p q:Nat) (w:World) (h1:Seg w w.heap.size a c.cells.length 3 (cellF c.cells)) (z1:a=none→p=0) (h2:Seg w w.heap.size b c.words.length 1 (intF c.words)) (z2:b=none→q=0) (l1:c.cells.length≤maxLen) (l2:c.words.length≤maxLen) (hc:chanOk c=true) (hh:handOk h=false) :
    Calls Tryz.prog 21 #[.func (.func F) #[] #[],.agg (cvals c (.slice a c.cells.length p) (.slice b c.words.length q)),.agg (hvals h)] w fun r w'=>StepN w w' nothing r:=by
  have H1:=Lib.hid h1
  have H2:=Lib.hid h2
  have T:=Lib.hid fun W=>refused_any W w.heap.size (.slice none 0 0) (.slice none 0 0)
  generalize nothing=x at *
  clear h1 h2 z1 z2
  have d1:∀ j,(Value.slice none 0 0).ownBlock=some j→w.heap.size+1+1+1+1≤j:=fun j hj=>by cases hj
  have d2:=d1
  go_enter Tryz.func21,Tryz.ntmps21
  go_wp2_with fail;refine bHit w (by exact zB) fun bb=>?_;refine (iChanOk_any c a b p q _ ((H1.out.below bb).more bb.size) ((H2.out.below bb).more bb.size) l1 l2).mono ?_;rintro _ w1 ⟨rfl,hbw1⟩;have hCw1:Below w.heap.size w w1:=bT bb hbw1;have hsw1:=hbw1.size;(try simp at hsw1);have zz:=q4 hbw1 (b:=w.heap.size);(try simp [go_sem] at zz);(try clear z_wppp x_wppp f_wppp l_wppp);(try clear z_wpp x_wpp f_wpp l_wpp);(try clear z_wp x_wp f_wp l_wp);(try clear z_w x_w f_w l_w);obtain ⟨z_wppp,z_wpp,z_wp,z_w⟩:=zz;obtain ⟨x_wppp,f_wppp,l_wppp⟩:=bO z_wppp;obtain ⟨x_wpp,f_wpp,l_wpp⟩:=bO z_wpp;obtain ⟨x_wp,f_wp,l_wp⟩:=bO z_wp;obtain ⟨x_w,f_w,l_w⟩:=bO z_w;clear hbw1 bb
  rw [hc]
  go_wp2_with fail;refine bHit w (by exact zB) fun bb=>?_;refine (handOk_any h _).mono ?_;rintro _ w2 ⟨rfl,hbw2⟩;have hCw2:Below w.heap.size w w2:=bT bb hbw2;have hsw2:=hbw2.size;(try simp at hsw2);have zz:=q4 hbw2 (b:=w.heap.size);(first|simp [go_sem,z_wppp,z_wpp,z_wp,z_w,l_w,l_wp,l_wpp,l_wppp] at zz|simp [go_sem] at zz|skip);(try clear z_wppp x_wppp f_wppp l_wppp);(try clear z_wpp x_wpp f_wpp l_wpp);(try clear z_wp x_wp f_wp l_wp);(try clear z_w x_w f_w l_w);obtain ⟨z_wppp,z_wpp,z_wp,z_w⟩:=zz;obtain ⟨x_wppp,f_wppp,l_wppp⟩:=bO z_wppp;obtain ⟨x_wpp,f_wpp,l_wpp⟩:=bO z_wpp;obtain ⟨x_wp,f_wp,l_wp⟩:=bO z_wp;obtain ⟨x_w,f_w,l_w⟩:=bO z_w;clear hbw2 bb
  rw [hh]
  go_wp2_with fail;refine bHit w (by exact zB) fun bb=>?_;refine (T.out _).mono ?_;rintro _ w9 ⟨⟨y1,y2,rfl,oY1,oY2,fY1,fY2⟩,hbw9⟩;have hCw9:Below w.heap.size w w9:=bT bb hbw9;have hsw9:=hbw9.size;(try simp at hsw9);have zz:=q4 hbw9 (b:=w.heap.size);(first|simp [go_sem,z_wppp,z_wpp,z_wp,z_w,l_w,l_wp,l_wpp,l_wppp] at zz|simp [go_sem] at zz|skip);(try clear z_wppp x_wppp f_wppp l_wppp);(try clear z_wpp x_wpp f_wpp l_wpp);(try clear z_wp x_wp f_wp l_wp);(try clear z_w x_w f_w l_w);obtain ⟨z_wppp,z_wpp,z_wp,z_w⟩:=zz;obtain ⟨x_wppp,f_wppp,l_wppp⟩:=bO z_wppp;obtain ⟨x_wpp,f_wpp,l_wpp⟩:=bO z_wpp;obtain ⟨x_wp,f_wp,l_wp⟩:=bO z_wp;obtain ⟨x_w,f_w,l_w⟩:=bO z_w;clear hbw9 bb
  have hoff1:∀ j,w.heap.size≤j→j<w.heap.size+1+1+1+1→y1.ownBlock≠some j:=fun j _ h2=>fY1.off2 d1 h2 (by (try simp) <;> omega);have hoff2:∀ j,w.heap.size≤j→j<w.heap.size+1+1+1+1→y2.ownBlock≠some j:=fun j _ h2=>fY2.off2 d2 h2 (by (try simp) <;> omega);have fr1:Fresh w (.slice none 0 0) y1:=fun j hj=>.inr (fY1.up d1 (by (try simp) <;> omega) (by (try simp) <;> omega) j hj);have fr2:Fresh w (.slice none 0 0) y2:=fun j hj=>.inr (fY2.up d2 (by (try simp) <;> omega) (by (try simp) <;> omega) j hj);obtain ⟨ya,yp,rfl,_⟩:=oY1.seg;obtain ⟨yb,yq,rfl,_⟩:=oY2.seg
  go_wp2
  refine bodyPost_ret (res_cct Tryz.results21 rfl (ldChan x.1 (.slice ya x.1.cells.length yp) (.slice yb x.1.words.length yq) (by simp [go_sem, *])) rfl (ldHand x.2.1 (by simp [go_sem, *]))) rfl ⟨⟨_,_,rfl,?_,?_,fr1,fr2⟩,by exact zB⟩
  · exact zP oY1 oY1 hoff1
  · exact zP oY2 oY2 hoff2
end Go.Proofs.YtkiingmgpobgnaaGreat
set_option linter.unusedSimpArgs false
set_option linter.unusedVariables false
namespace Go.Proofs.YtkiingmgpobgnaaGreat
open Go.RowKit
set_option linter.unusedSimpArgs false
attribute [local simp] bx_size
attribute [local go_sem ↓] zeroHand zeroChan toLHand toLChan toVHand toVChan storeHand storeChan storeHandC storeChanC
def tbl:Array Value:=#[.nilFunc,.func (.func 89) #[] #[],.func (.func 90) #[] #[],.func (.func 91) #[] #[],.func (.func 92) #[] #[],.func (.func 93) #[] #[],.func (.func 94) #[] #[],.func (.func 95) #[] #[],.func (.func 96) #[] #[]]
set_option maxRecDepth 100000 in
set_option maxHeartbeats 2000000 in
theorem touches_any (w:World):Calls Tryz.prog 57 #[] w fun r w'=>r=.returned (.agg tbl)∧Below w.heap.size w w':=by
  go_enter Tryz.func57,Tryz.ntmps57
  go_wp2
  refine bodyPost_ret (v:=.agg tbl) (by simp [results,Tryz.results57,go_sem,tbl, *]) rfl ⟨rfl,by exact zB⟩
theorem funcNil (F:Nat) (w:World):(binOp .eql 84 (.func (.func F) #[] #[]) .nilFunc).run Tryz.prog w=.ok (.bool false) w:=by
  have u:=Tryz.underlying84
  simp only [binOp,Op.equal,Op.maxDepth]
  rw [show (10000:Nat)=9999+1 from rfl]
  generalize (9999:Nat)=d
  rw [Op.equalIn]
  simp [Sem.run_bind,run_underlying u,Result.andThen]
attribute [local go_sem ↓] funcNil
set_option maxRecDepth 100000 in
set_option maxHeartbeats 8000000 in
theorem sendTouch_via (F k:Nat) (x:St) (c:Ch) (h:Ha) (v1 v2:Value) (lo:Nat) (w:World) (h1:OCells w lo v1 c.cells) (h2:OInts w lo v2 c.words) (hlo:lo≤w.heap.size) (hk:h.code=1) (hpos:h.pos=(k:Int)) (hk9:k<9) (hfun:tbl[k]?=some (.func (.func F) #[] #[])) (eg:∀ args w,(callFunc F args).run Tryz.prog w=.ok (.enter F args) w) (HF:∀ (v1 v2:Value) (lo:Nat) (W:World),OCells W lo v1 c.cells→OInts W lo v2 c.words→lo≤W.heap.size→Calls Tryz.prog F #[.agg (cvals c v1 v2),.agg (hvals h)] W fun r w'=>StepO W w' lo v1 v2 x r) :
    Calls Tryz.prog 22 #[.agg (cvals c v1 v2),.agg (hvals h)] w fun r w'=>StepO w w' lo v1 v2 x r:=by
  have b1:=fun j (hj:v1.ownBlock=some j)=>(h1.lt j hj).2
  have b2:=fun j (hj:v2.ownBlock=some j)=>(h2.lt j hj).2
  obtain ⟨a1,q1,rfl,_⟩:=h1.seg
  obtain ⟨a2,q2,rfl,_⟩:=h2.seg
  have O1:=Lib.hid h1
  have O2:=Lib.hid h2
  clear h1 h2
  have hk1:(h.code != 1)=false:=by simp [hk]
  have hk0:(0:Int)≤(k:Int):=by omega
  have hk8:(k:Int)<9:=by omega
  have hk7:¬ (9:Int)≤(k:Int):=by omega
  clear hk
  have HFF:=Lib.hid HF
  have TT:=Lib.hid fun w=>touches_any w
  clear HF
  have o1:=O1.out
  have o2:=O2.out
  go_enter Tryz.func22,Tryz.ntmps22
  go_wp2_with fail;refine bHit w (by exact zB) fun bb=>?_;refine (TT.out _).mono ?_;rintro _ w1 ⟨rfl,hbw1⟩;have hCw1:Below w.heap.size w w1:=bT bb hbw1;have hsw1:=hbw1.size;(try simp at hsw1);have zz:=q4 hbw1 (b:=w.heap.size);(try simp [go_sem] at zz);(try clear z_wppp x_wppp f_wppp l_wppp);(try clear z_wpp x_wpp f_wpp l_wpp);(try clear z_wp x_wp f_wp l_wp);(try clear z_w x_w f_w l_w);obtain ⟨z_wppp,z_wpp,z_wp,z_w⟩:=zz;obtain ⟨x_wppp,f_wppp,l_wppp⟩:=bO z_wppp;obtain ⟨x_wpp,f_wpp,l_wpp⟩:=bO z_wpp;obtain ⟨x_wp,f_wp,l_wp⟩:=bO z_wp;obtain ⟨x_w,f_w,l_w⟩:=bO z_w;have hKw1:Below w.heap.size w w1:=hCw1;clear hbw1 bb
  have p1:=own_below o1 hKw1
  have p2:=own_below o2 hKw1
  unfold tbl
  go_upto_region 2 with fail
  generalize hw2:World.alloc w1 _=w2
  have zt:hp w2 w1.heap.size=some (.cells tbl 85):=by rw [← hw2];simp [go_sem,tbl]
  have hE:Below w1.heap.size w1 w2:=by rw [← hw2];exact belowAlloc _ _
  clear hw2
  have hO2:Onl (Value.slice a1 c.cells.length q1).ownBlock (Value.slice a2 c.words.length q2).ownBlock w w2:=onlB (bT hKw1 hE)
  have hS2:lo≤w2.heap.size:=Nat.le_trans hlo (bT hKw1 hE).size
  have hw3:w.heap.size+1+1+1<w1.heap.size:=l_wppp
  replace p1:=own_below p1 hE
  replace p2:=own_below p2 hE
  replace z_w:=hpS z_w hE
  replace z_wp:=hpS z_wp hE
  replace z_wpp:=hpS z_wpp hE
  replace z_wppp:=hpS z_wppp hE
  clear x_w f_w l_w x_wp f_wp l_wp x_wpp f_wpp l_wpp x_wppp f_wppp l_wppp o1 o2
  obtain ⟨x_t,f_t,l_t⟩:=bO zt
  obtain ⟨x_w,f_w,l_w⟩:=bO z_w
  obtain ⟨x_wp,f_wp,l_wp⟩:=bO z_wp
  have hq:=(x_t k).trans hfun
  clear x_t
  have hp0:w2.cell? ⟨w.heap.size+1,0,none⟩=some (.int .i64 k):=(x_wp 0).trans (by rw [hv_get0,hpos])
  go_upto_region 4 with fail
  refine wp_region_inv [[],[0],[0,1],[0,1,2],[],[],[0,1,2,3,4,5],[0,1,2,3,4,5,6],[0,1,2,3,4,5,6],[0,1,2,3,4,5,6],[0,1,2,3,4,5,6,7],[0,1,2,3,4,5,6,8],[0,1,2,3,4,5,6,9]] [29,30,31,32,33,34,35,36,37,38,6] (fun l s wx=>(Onl (Value.slice a1 c.cells.length q1).ownBlock (Value.slice a2 c.words.length q2).ownBlock w wx)∧(hp wx w.heap.size=some (.cells (cvals c (Value.slice a1 c.cells.length q1) (Value.slice a2 c.words.length q2)) 27))∧(hp wx (w.heap.size+1)=some (.cells (hvals h) 31))∧(hp wx w1.heap.size=some (.cells tbl 85))∧(hp wx (w.heap.size+1+1)=some (.cells (cond (l 10) (cvals x.1 (s 1003) (s 1004)) (cvals Ch.zero (.slice none 0 0) (.slice none 0 0))) 27))∧(hp wx (w.heap.size+1+1+1)=some (.cells (cond (l 11) (hvals x.2.1) (hvals Ha.zero)) 31))∧(l 6=false→OCells wx lo (Value.slice a1 c.cells.length q1) c.cells)∧(l 6=false→OInts wx lo (Value.slice a2 c.words.length q2) c.words)∧(lo≤wx.heap.size)∧(l 0=true→s 29=.pointer (some ⟨w.heap.size+1,0,none⟩))∧(l 1=true→s 30=.int .i64 k)∧(l 2=true→s 31=.pointer (some ⟨w1.heap.size,k,none⟩))∧(l 3=true→s 32=.func (.func F) #[] #[])∧(l 4=true→s 33=.agg (cvals c (Value.slice a1 c.cells.length q1) (Value.slice a2 c.words.length q2)))∧(l 5=true→s 34=.agg (hvals h))∧(l 6=true→s 35=.tuple #[.agg (cvals x.1 (s 1003) (s 1004)),.agg (hvals x.2.1),.bool x.2.2]∧OCells wx lo (s 1003) x.1.cells∧OInts wx lo (s 1004) x.1.words∧Fresh w (Value.slice a1 c.cells.length q1) (s 1003)∧Fresh w (Value.slice a2 c.words.length q2) (s 1004))∧(l 7=true→s 36=.agg (cvals x.1 (s 1003) (s 1004)))∧(l 8=true→s 37=.agg (hvals x.2.1))∧(l 9=true→s 38=.bool x.2.2)∧(l 12=true→s 6=.bool x.2.2)) (by kernel_rfl) (by kernel_rfl) (by kernel_rfl) (fun s=>by (simp only [fill,fillA,List.setIfInBounds_toArray,List.set_cons_zero,List.set_cons_succ];rfl)) (fun s=>⟨oD hO2,z_w,z_wp,zt,z_wpp,z_wppp,fun _=>oDr p1,fun _=>oDr p2,hS2,fun h=>absurd h Bool.false_ne_true,fun h=>absurd h Bool.false_ne_true,fun h=>absurd h Bool.false_ne_true,fun h=>absurd h Bool.false_ne_true,fun h=>absurd h Bool.false_ne_true,fun h=>absurd h Bool.false_ne_true,fun h=>absurd h Bool.false_ne_true,fun h=>absurd h Bool.false_ne_true,fun h=>absurd h Bool.false_ne_true,fun h=>absurd h Bool.false_ne_true,fun h=>absurd h Bool.false_ne_true⟩) ?_ ?_
  refine ⟨?_,?_,?_,?_,?_,?_,?_,?_,?_,?_,?_,?_,?_,trivial⟩;rotate_left 13
  · intro l s wx hall hf
    have hO:=hf.1
    have z1:=hf.2.2.2.2.1
    have z2:=hf.2.2.2.2.2.1
    rw [hall 10 rfl] at z1
    rw [hall 11 rfl] at z2
    dsimp only [cond] at z1 z2
    obtain ⟨_,X1,X2,F1,F2⟩:=(hf.2.2.2.2.2.2.2.2.2.2.2.2.2.2.2.1 (hall 6 rfl))
    have ec:=(hf.2.2.2.2.2.2.2.2.2.2.2.2.2.2.2.2.2.2.2 (hall 12 rfl))
    simp only [ec]
    clear ec hf hall
    go_wp2
    exact bodyPost_ret (res_cct Tryz.results22 rfl (ldChan x.1 _ _ z1) rfl (ldHand x.2.1 z2)) rfl ⟨⟨_,_,rfl,X1,X2,F1,F2⟩,hO⟩
  · intro l s wx hl hd hn hf0 K hK
    have hf:=Lib.hid hf0
    clear hf0
    go_simp
    refine hK.out (upd s 29 (.pointer (some ⟨w.heap.size+1,0,none⟩))) _ _ (by simp [upd_at] <;> rfl) ⟨hf.out.1,hf.out.2.1,hf.out.2.2.1,hf.out.2.2.2.1,hf.out.2.2.2.2.1,hf.out.2.2.2.2.2.1,hf.out.2.2.2.2.2.2.1,hf.out.2.2.2.2.2.2.2.1,hf.out.2.2.2.2.2.2.2.2.1,fun _=>rfl,nU (hn 1 rfl),nU (hn 2 rfl),nU (hn 3 rfl),hf.out.2.2.2.2.2.2.2.2.2.2.2.2.2.1,hf.out.2.2.2.2.2.2.2.2.2.2.2.2.2.2.1,nU (hn 6 rfl),nU (hn 7 rfl),nU (hn 8 rfl),nU (hn 9 rfl),nU (hn 12 rfl)⟩
  · intro l s wx hl hd hn hf0 K hK
    have hf:=Lib.hid hf0
    clear hf0
    have e0:=(hf.out.2.2.2.2.2.2.2.2.2.1 (hd 0 rfl))
    have z:wx.cell? ⟨w.heap.size+1,0,none⟩=some (.int .i64 k):=((bO hf.out.2.2.1).1 0).trans (by rw [hv_get0,hpos])
    go_simp
    refine hK.out (upd s 30 (.int .i64 k)) _ _ (by simp [upd_at,e0] <;> rfl) ⟨hf.out.1,hf.out.2.1,hf.out.2.2.1,hf.out.2.2.2.1,hf.out.2.2.2.2.1,hf.out.2.2.2.2.2.1,hf.out.2.2.2.2.2.2.1,hf.out.2.2.2.2.2.2.2.1,hf.out.2.2.2.2.2.2.2.2.1,hf.out.2.2.2.2.2.2.2.2.2.1,fun _=>rfl,nU (hn 2 rfl),nU (hn 3 rfl),hf.out.2.2.2.2.2.2.2.2.2.2.2.2.2.1,hf.out.2.2.2.2.2.2.2.2.2.2.2.2.2.2.1,nU (hn 6 rfl),nU (hn 7 rfl),nU (hn 8 rfl),nU (hn 9 rfl),nU (hn 12 rfl)⟩
  · intro l s wx hl hd hn hf0 K hK
    have hf:=Lib.hid hf0
    clear hf0
    have e1:=(hf.out.2.2.2.2.2.2.2.2.2.2.1 (hd 1 rfl))
    go_simp
    refine hK.out (upd s 31 (.pointer (some ⟨w1.heap.size,k,none⟩))) _ _ (by simp [upd_at,e1] <;> rfl) ⟨hf.out.1,hf.out.2.1,hf.out.2.2.1,hf.out.2.2.2.1,hf.out.2.2.2.2.1,hf.out.2.2.2.2.2.1,hf.out.2.2.2.2.2.2.1,hf.out.2.2.2.2.2.2.2.1,hf.out.2.2.2.2.2.2.2.2.1,hf.out.2.2.2.2.2.2.2.2.2.1,hf.out.2.2.2.2.2.2.2.2.2.2.1,fun _=>rfl,nU (hn 3 rfl),hf.out.2.2.2.2.2.2.2.2.2.2.2.2.2.1,hf.out.2.2.2.2.2.2.2.2.2.2.2.2.2.2.1,nU (hn 6 rfl),nU (hn 7 rfl),nU (hn 8 rfl),nU (hn 9 rfl),nU (hn 12 rfl)⟩
  · intro l s wx hl hd hn hf0 K hK
    have hf:=Lib.hid hf0
    clear hf0
    have e2:=(hf.out.2.2.2.2.2.2.2.2.2.2.2.1 (hd 2 rfl))
    have z:wx.cell? ⟨w1.heap.size,k,none⟩=some (.func (.func F) #[] #[]):=((bO hf.out.2.2.2.1).1 k).trans hfun
    go_simp
    refine hK.out (upd s 32 (.func (.func F) #[] #[])) _ _ (by simp [upd_at,e2] <;> rfl) ⟨hf.out.1,hf.out.2.1,hf.out.2.2.1,hf.out.2.2.2.1,hf.out.2.2.2.2.1,hf.out.2.2.2.2.2.1,hf.out.2.2.2.2.2.2.1,hf.out.2.2.2.2.2.2.2.1,hf.out.2.2.2.2.2.2.2.2.1,hf.out.2.2.2.2.2.2.2.2.2.1,hf.out.2.2.2.2.2.2.2.2.2.2.1,hf.out.2.2.2.2.2.2.2.2.2.2.2.1,fun _=>rfl,hf.out.2.2.2.2.2.2.2.2.2.2.2.2.2.1,hf.out.2.2.2.2.2.2.2.2.2.2.2.2.2.2.1,nU (hn 6 rfl),nU (hn 7 rfl),nU (hn 8 rfl),nU (hn 9 rfl),nU (hn 12 rfl)⟩
  · intro l s wx hl hd hn hf0 K hK
    have hf:=Lib.hid hf0
    clear hf0
    have zc:=hf.out.2.1
    go_simp
    refine hK.out (upd s 33 (.agg (cvals c (Value.slice a1 c.cells.length q1) (Value.slice a2 c.words.length q2)))) _ _ (by simp [upd_at] <;> rfl) ⟨hf.out.1,hf.out.2.1,hf.out.2.2.1,hf.out.2.2.2.1,hf.out.2.2.2.2.1,hf.out.2.2.2.2.2.1,hf.out.2.2.2.2.2.2.1,hf.out.2.2.2.2.2.2.2.1,hf.out.2.2.2.2.2.2.2.2.1,hf.out.2.2.2.2.2.2.2.2.2.1,hf.out.2.2.2.2.2.2.2.2.2.2.1,hf.out.2.2.2.2.2.2.2.2.2.2.2.1,hf.out.2.2.2.2.2.2.2.2.2.2.2.2.1,fun _=>rfl,hf.out.2.2.2.2.2.2.2.2.2.2.2.2.2.2.1,nU (hn 6 rfl),nU (hn 7 rfl),nU (hn 8 rfl),nU (hn 9 rfl),nU (hn 12 rfl)⟩
  · intro l s wx hl hd hn hf0 K hK
    have hf:=Lib.hid hf0
    clear hf0
    have zh:=hf.out.2.2.1
    go_simp
    refine hK.out (upd s 34 (.agg (hvals h))) _ _ (by simp [upd_at] <;> rfl) ⟨hf.out.1,hf.out.2.1,hf.out.2.2.1,hf.out.2.2.2.1,hf.out.2.2.2.2.1,hf.out.2.2.2.2.2.1,hf.out.2.2.2.2.2.2.1,hf.out.2.2.2.2.2.2.2.1,hf.out.2.2.2.2.2.2.2.2.1,hf.out.2.2.2.2.2.2.2.2.2.1,hf.out.2.2.2.2.2.2.2.2.2.2.1,hf.out.2.2.2.2.2.2.2.2.2.2.2.1,hf.out.2.2.2.2.2.2.2.2.2.2.2.2.1,hf.out.2.2.2.2.2.2.2.2.2.2.2.2.2.1,fun _=>rfl,nU (hn 6 rfl),nU (hn 7 rfl),nU (hn 8 rfl),nU (hn 9 rfl),nU (hn 12 rfl)⟩
  · intro l s wx hl hd hn hf0 K hK
    have hf:=Lib.hid hf0
    clear hf0
    have e3:=(hf.out.2.2.2.2.2.2.2.2.2.2.2.2.1 (hd 3 rfl))
    have e4:=(hf.out.2.2.2.2.2.2.2.2.2.2.2.2.2.1 (hd 4 rfl))
    have e5:=(hf.out.2.2.2.2.2.2.2.2.2.2.2.2.2.2.1 (hd 5 rfl))
    have o1:=hf.out.2.2.2.2.2.2.1 hl
    have o2:=hf.out.2.2.2.2.2.2.2.1 hl
    go_simp
    refine (HFF.out _ _ lo _ o1 o2 hf.out.2.2.2.2.2.2.2.2.1).mono ?_
    rintro _ wy ⟨⟨y1,y2,rfl,X1,X2,F1,F2⟩,hO⟩
    refine hK.out (upd (upd (upd s 1003 (y1)) 1004 (y2)) 35 (.tuple #[.agg (cvals x.1 y1 y2),.agg (hvals x.2.1),.bool x.2.2])) _ _ (by simp [upd_at,e3,e4,e5] <;> rfl) ⟨onlT hf.out.1 hO,hp_onl hf.out.2.1 hO o1 o2 (by decide) (by decide),hp_onl hf.out.2.2.1 hO o1 o2 (by decide) (by decide),hp_onl hf.out.2.2.2.1 hO o1 o2 (by decide) (by decide),by (have ee:l 10=false:=hn 10 rfl);(have F:=hf.out.2.2.2.2.1);rw [ee] at F;rw [show upd l 6 true 10=false from ee];exact hp_onl F hO o1 o2 (by decide) (by decide),by (have ee:l 11=false:=hn 11 rfl);(have F:=hf.out.2.2.2.2.2.1);rw [ee] at F;rw [show upd l 6 true 11=false from ee];exact hp_onl F hO o1 o2 (by decide) (by decide),fun h4=>absurd h4 (by rw [show upd l 6 true 6=true from rfl];decide),fun h4=>absurd h4 (by rw [show upd l 6 true 6=true from rfl];decide),Nat.le_trans hf.out.2.2.2.2.2.2.2.2.1 hO.2.2.2.1,hf.out.2.2.2.2.2.2.2.2.2.1,hf.out.2.2.2.2.2.2.2.2.2.2.1,hf.out.2.2.2.2.2.2.2.2.2.2.2.1,hf.out.2.2.2.2.2.2.2.2.2.2.2.2.1,hf.out.2.2.2.2.2.2.2.2.2.2.2.2.2.1,hf.out.2.2.2.2.2.2.2.2.2.2.2.2.2.2.1,fun _=>⟨rfl,X1,X2,fun j hj=>(F1 j hj).imp id (fun h=>Nat.le_trans hf.out.1.2.2.2.1 h),fun j hj=>(F2 j hj).imp id (fun h=>Nat.le_trans hf.out.1.2.2.2.1 h)⟩,nU (hn 7 rfl),nU (hn 8 rfl),nU (hn 9 rfl),nU (hn 12 rfl)⟩
  · intro l s wx hl hd hn hf0 K hK
    have hf:=Lib.hid hf0
    clear hf0
    have e6:=(hf.out.2.2.2.2.2.2.2.2.2.2.2.2.2.2.2.1 (hd 6 rfl)).1
    go_simp
    refine hK.out (upd s 36 (.agg (cvals x.1 (s 1003) (s 1004)))) _ _ (by simp [upd_at,e6] <;> rfl) ⟨hf.out.1,hf.out.2.1,hf.out.2.2.1,hf.out.2.2.2.1,hf.out.2.2.2.2.1,hf.out.2.2.2.2.2.1,hf.out.2.2.2.2.2.2.1,hf.out.2.2.2.2.2.2.2.1,hf.out.2.2.2.2.2.2.2.2.1,hf.out.2.2.2.2.2.2.2.2.2.1,hf.out.2.2.2.2.2.2.2.2.2.2.1,hf.out.2.2.2.2.2.2.2.2.2.2.2.1,hf.out.2.2.2.2.2.2.2.2.2.2.2.2.1,hf.out.2.2.2.2.2.2.2.2.2.2.2.2.2.1,hf.out.2.2.2.2.2.2.2.2.2.2.2.2.2.2.1,hf.out.2.2.2.2.2.2.2.2.2.2.2.2.2.2.2.1,fun _=>rfl,hf.out.2.2.2.2.2.2.2.2.2.2.2.2.2.2.2.2.2.1,hf.out.2.2.2.2.2.2.2.2.2.2.2.2.2.2.2.2.2.2.1,hf.out.2.2.2.2.2.2.2.2.2.2.2.2.2.2.2.2.2.2.2⟩
  · intro l s wx hl hd hn hf0 K hK
    have hf:=Lib.hid hf0
    clear hf0
    have e6:=(hf.out.2.2.2.2.2.2.2.2.2.2.2.2.2.2.2.1 (hd 6 rfl)).1
    go_simp
    refine hK.out (upd s 37 (.agg (hvals x.2.1))) _ _ (by simp [upd_at,e6] <;> rfl) ⟨hf.out.1,hf.out.2.1,hf.out.2.2.1,hf.out.2.2.2.1,hf.out.2.2.2.2.1,hf.out.2.2.2.2.2.1,hf.out.2.2.2.2.2.2.1,hf.out.2.2.2.2.2.2.2.1,hf.out.2.2.2.2.2.2.2.2.1,hf.out.2.2.2.2.2.2.2.2.2.1,hf.out.2.2.2.2.2.2.2.2.2.2.1,hf.out.2.2.2.2.2.2.2.2.2.2.2.1,hf.out.2.2.2.2.2.2.2.2.2.2.2.2.1,hf.out.2.2.2.2.2.2.2.2.2.2.2.2.2.1,hf.out.2.2.2.2.2.2.2.2.2.2.2.2.2.2.1,hf.out.2.2.2.2.2.2.2.2.2.2.2.2.2.2.2.1,hf.out.2.2.2.2.2.2.2.2.2.2.2.2.2.2.2.2.1,fun _=>rfl,hf.out.2.2.2.2.2.2.2.2.2.2.2.2.2.2.2.2.2.2.1,hf.out.2.2.2.2.2.2.2.2.2.2.2.2.2.2.2.2.2.2.2⟩
  · intro l s wx hl hd hn hf0 K hK
    have hf:=Lib.hid hf0
    clear hf0
    have e6:=(hf.out.2.2.2.2.2.2.2.2.2.2.2.2.2.2.2.1 (hd 6 rfl)).1
    go_simp
    refine hK.out (upd s 38 (.bool x.2.2)) _ _ (by simp [upd_at,e6] <;> rfl) ⟨hf.out.1,hf.out.2.1,hf.out.2.2.1,hf.out.2.2.2.1,hf.out.2.2.2.2.1,hf.out.2.2.2.2.2.1,hf.out.2.2.2.2.2.2.1,hf.out.2.2.2.2.2.2.2.1,hf.out.2.2.2.2.2.2.2.2.1,hf.out.2.2.2.2.2.2.2.2.2.1,hf.out.2.2.2.2.2.2.2.2.2.2.1,hf.out.2.2.2.2.2.2.2.2.2.2.2.1,hf.out.2.2.2.2.2.2.2.2.2.2.2.2.1,hf.out.2.2.2.2.2.2.2.2.2.2.2.2.2.1,hf.out.2.2.2.2.2.2.2.2.2.2.2.2.2.2.1,hf.out.2.2.2.2.2.2.2.2.2.2.2.2.2.2.2.1,hf.out.2.2.2.2.2.2.2.2.2.2.2.2.2.2.2.2.1,hf.out.2.2.2.2.2.2.2.2.2.2.2.2.2.2.2.2.2.1,fun _=>rfl,nU (hn 12 rfl)⟩
  · intro l s wx hl hd hn hf0 K hK
    have hf:=Lib.hid hf0
    clear hf0
    have e7:=(hf.out.2.2.2.2.2.2.2.2.2.2.2.2.2.2.2.2.1 (hd 7 rfl))
    have e6:=(hf.out.2.2.2.2.2.2.2.2.2.2.2.2.2.2.2.1 (hd 6 rfl))
    have X1:=e6.2.1
    have X2:=e6.2.2.1
    clear e6
    have zr:=hf.out.2.2.2.2.1
    rw [hl] at zr
    dsimp only [cond] at zr
    obtain ⟨xa,xp,ea,_⟩:=X1.seg
    obtain ⟨xb,xq,eb2,_⟩:=X2.seg
    rw [ea,eb2] at e7
    have zn:hp (setBox wx (w.heap.size+1+1) (cvals x.1 (.slice xa x.1.cells.length xp) (.slice xb x.1.words.length xq))) (w.heap.size+1+1)=some (.cells (cvals x.1 (s 1003) (s 1004)) 27):=by rw [ea,eb2];exact hp_set zr
    go_simp
    refine hK.out (s) _ _ (by simp [upd_at,e7,ea,eb2] <;> rfl) ⟨oX hf.out.1 (by omega),(bx_heap_ne (by omega)).trans hf.out.2.1,(bx_heap_ne (by omega)).trans hf.out.2.2.1,(bx_heap_ne (by omega)).trans hf.out.2.2.2.1,zn,(bx_heap_ne (by omega)).trans hf.out.2.2.2.2.2.1,fun h4=>absurd ((hd 6 rfl).symm.trans h4) (by decide),fun h4=>absurd ((hd 6 rfl).symm.trans h4) (by decide),Nat.le_trans hf.out.2.2.2.2.2.2.2.2.1 (Nat.le_of_eq bx_size.symm),hf.out.2.2.2.2.2.2.2.2.2.1,hf.out.2.2.2.2.2.2.2.2.2.2.1,hf.out.2.2.2.2.2.2.2.2.2.2.2.1,hf.out.2.2.2.2.2.2.2.2.2.2.2.2.1,hf.out.2.2.2.2.2.2.2.2.2.2.2.2.2.1,hf.out.2.2.2.2.2.2.2.2.2.2.2.2.2.2.1,fun h=>(let ⟨e,X1,X2,F1,F2⟩:=hf.out.2.2.2.2.2.2.2.2.2.2.2.2.2.2.2.1 h;⟨e,own_far X1 zr (by decide),own_far X2 zr (by decide),F1,F2⟩),hf.out.2.2.2.2.2.2.2.2.2.2.2.2.2.2.2.2.1,hf.out.2.2.2.2.2.2.2.2.2.2.2.2.2.2.2.2.2.1,hf.out.2.2.2.2.2.2.2.2.2.2.2.2.2.2.2.2.2.2.1,hf.out.2.2.2.2.2.2.2.2.2.2.2.2.2.2.2.2.2.2.2⟩
  · intro l s wx hl hd hn hf0 K hK
    have hf:=Lib.hid hf0
    clear hf0
    have e8:=(hf.out.2.2.2.2.2.2.2.2.2.2.2.2.2.2.2.2.2.1 (hd 8 rfl))
    have e6:=(hf.out.2.2.2.2.2.2.2.2.2.2.2.2.2.2.2.1 (hd 6 rfl))
    have X1:=e6.2.1
    have X2:=e6.2.2.1
    clear e6
    have zr:=hf.out.2.2.2.2.2.1
    rw [hl] at zr
    dsimp only [cond] at zr
    have zn:hp (setBox wx (w.heap.size+1+1+1) (hvals x.2.1)) (w.heap.size+1+1+1)=some (.cells (hvals x.2.1) 31):=by exact hp_set zr
    go_simp
    refine hK.out (s) _ _ (by simp [upd_at,e8] <;> rfl) ⟨oX hf.out.1 (by omega),(bx_heap_ne (by omega)).trans hf.out.2.1,(bx_heap_ne (by omega)).trans hf.out.2.2.1,(bx_heap_ne (by omega)).trans hf.out.2.2.2.1,(bx_heap_ne (by omega)).trans hf.out.2.2.2.2.1,zn,fun h4=>absurd ((hd 6 rfl).symm.trans h4) (by decide),fun h4=>absurd ((hd 6 rfl).symm.trans h4) (by decide),Nat.le_trans hf.out.2.2.2.2.2.2.2.2.1 (Nat.le_of_eq bx_size.symm),hf.out.2.2.2.2.2.2.2.2.2.1,hf.out.2.2.2.2.2.2.2.2.2.2.1,hf.out.2.2.2.2.2.2.2.2.2.2.2.1,hf.out.2.2.2.2.2.2.2.2.2.2.2.2.1,hf.out.2.2.2.2.2.2.2.2.2.2.2.2.2.1,hf.out.2.2.2.2.2.2.2.2.2.2.2.2.2.2.1,fun h=>(let ⟨e,X1,X2,F1,F2⟩:=hf.out.2.2.2.2.2.2.2.2.2.2.2.2.2.2.2.1 h;⟨e,own_far X1 zr (by decide),own_far X2 zr (by decide),F1,F2⟩),hf.out.2.2.2.2.2.2.2.2.2.2.2.2.2.2.2.2.1,hf.out.2.2.2.2.2.2.2.2.2.2.2.2.2.2.2.2.2.1,hf.out.2.2.2.2.2.2.2.2.2.2.2.2.2.2.2.2.2.2.1,hf.out.2.2.2.2.2.2.2.2.2.2.2.2.2.2.2.2.2.2.2⟩
  · intro l s wx hl hd hn hf0 K hK
    have hf:=Lib.hid hf0
    clear hf0
    have e9:=(hf.out.2.2.2.2.2.2.2.2.2.2.2.2.2.2.2.2.2.2.1 (hd 9 rfl))
    go_simp
    refine hK.out (upd s 6 (.bool x.2.2)) _ _ (by simp [upd_at,e9] <;> rfl) ⟨hf.out.1,hf.out.2.1,hf.out.2.2.1,hf.out.2.2.2.1,hf.out.2.2.2.2.1,hf.out.2.2.2.2.2.1,hf.out.2.2.2.2.2.2.1,hf.out.2.2.2.2.2.2.2.1,hf.out.2.2.2.2.2.2.2.2.1,hf.out.2.2.2.2.2.2.2.2.2.1,hf.out.2.2.2.2.2.2.2.2.2.2.1,hf.out.2.2.2.2.2.2.2.2.2.2.2.1,hf.out.2.2.2.2.2.2.2.2.2.2.2.2.1,hf.out.2.2.2.2.2.2.2.2.2.2.2.2.2.1,hf.out.2.2.2.2.2.2.2.2.2.2.2.2.2.2.1,hf.out.2.2.2.2.2.2.2.2.2.2.2.2.2.2.2.1,hf.out.2.2.2.2.2.2.2.2.2.2.2.2.2.2.2.2.1,hf.out.2.2.2.2.2.2.2.2.2.2.2.2.2.2.2.2.2.1,hf.out.2.2.2.2.2.2.2.2.2.2.2.2.2.2.2.2.2.2.1,fun _=>rfl⟩
end Go.Proofs.YtkiingmgpobgnaaGreat
set_option linter.unusedSimpArgs false
set_option linter.unusedVariables false
namespace Go.Proofs.YtkiingmgpobgnaaGreat
open Go.RowKit
set_option linter.unusedSimpArgs false
attribute [local simp] bx_size
attribute [local go_sem ↓] zeroHand zeroChan toLHand toLChan toVHand toVChan storeHand storeChan storeHandC storeChanC
set_option maxRecDepth 100000 in
set_option maxHeartbeats 8000000 in
theorem sendLook_any (c:Ch) (h:Ha) (v1 v2:Value) (lo:Nat) (w:World) (h1:OCells w lo v1 c.cells) (h2:OInts w lo v2 c.words) (hc0:0≤h.cell) (hc1:h.cell<c.cells.length) (hk:callOk h.code h.elem=true) :
    Calls Tryz.prog 91 #[.agg (cvals c v1 v2),.agg (hvals h)] w fun r w'=>StepO w w' lo v1 v2 (lk6 c h) r:=by
  obtain ⟨X,hX⟩:∃ X,lk6 c h=X:=⟨_,rfl⟩
  rw [hX]
  have b1:=fun j (hj:v1.ownBlock=some j)=>(h1.lt j hj).2
  have b2:=fun j (hj:v2.ownBlock=some j)=>(h2.lt j hj).2
  have T:=Lib.hid fun W=>refused_any W lo v1 v2
  obtain ⟨x,hN⟩:∃ x:St,x=nothing:=⟨_,rfl⟩
  rw [← hN] at T
  obtain ⟨i,hci⟩:∃ i:Nat,h.cell=(i:Int):=⟨h.cell.toNat,by omega⟩
  have hi:i<c.cells.length:=by omega
  have hi0:(0:Int)≤(i:Int):=by omega
  have hi1:(i:Int)<(c.cells.length:Int):=by omega
  have hne:=h1.ne h2
  obtain ⟨a2,q2,rfl,_⟩:=h2.seg
  obtain ⟨g,q1,rfl,hlo1,hlt,hcell,hfr⟩:=h1.open1 hi
  have O1:=Lib.hid h1
  have O2:=Lib.hid h2
  have m1:∀ j,w.heap.size≤j→some j≠(Value.slice (some ⟨g,0,none⟩) c.cells.length q1).ownBlock:=fun j hj e=>by have:=b1 _ e.symm;omega
  have m2:∀ j,w.heap.size≤j→some j≠(Value.slice a2 c.words.length q2).ownBlock:=fun j hj e=>by have:=b2 _ e.symm;omega
  have m10:=m1 (w.heap.size) (by omega)
  have m11:=m1 (w.heap.size+1) (by omega)
  have m12:=m1 (w.heap.size+1+1) (by omega)
  have m13:=m1 (w.heap.size+1+1+1) (by omega)
  have m20:=m2 (w.heap.size) (by omega)
  have m21:=m2 (w.heap.size+1) (by omega)
  have m22:=m2 (w.heap.size+1+1) (by omega)
  have m23:=m2 (w.heap.size+1+1+1) (by omega)
  have lg0:g<w.heap.size+1:=by omega
  have lg1:g<w.heap.size+1+1:=by omega
  have lg2:g<w.heap.size+1+1+1:=by omega
  have ng0:g≠w.heap.size:=by omega
  have ng1:g≠w.heap.size+1:=by omega
  have ng2:g≠w.heap.size+1+1:=by omega
  have ng3:g≠w.heap.size+1+1+1:=by omega
  have mg0:w.heap.size≠g:=by omega
  have mg1:w.heap.size+1≠g:=by omega
  have mg2:w.heap.size+1+1≠g:=by omega
  have mg3:w.heap.size+1+1+1≠g:=by omega
  have hx:Hid (cellAt c h.cell=c.cells.getD i ⟨0,0,0⟩):=by simp [cellAt,Hid,hci]
  have c0:=hcell 0 (by omega)
  have c1:=hcell 1 (by omega)
  have c2:=hcell 2 (by omega)
  simp only [C3.val,Nat.add_zero] at c0 c1 c2
  have ex:=hx.out
  generalize c.cells.getD i ⟨0,0,0⟩=x0 at *
  obtain ⟨ss,e,t⟩:=x0
  simp only at c0 c1 c2
  obtain ⟨k0,hk0⟩:∃ k0,anew (seenAs h ⟨ss,e,t⟩)=k0:=⟨_,rfl⟩
  have AN:=fun W=>anew_any (seenAs h ⟨ss,e,t⟩) hk W
  rw [hk0] at AN
  have F0:=fun hn:ss=0=>(show X=(c,{ seenAs h ⟨ss,e,t⟩ with pos:=4 },true) by (rw [← hX];simp [lk6,look6_at ex 0 hn]))
  have F1:=fun hn:ss=1=>(show X=(c,{ seenAs h ⟨ss,e,t⟩ with pos:=6 },true) by (rw [← hX];simp [lk6,look6_at ex 1 hn]))
  have F4:=fun hn:ss=4=>(show X=(c,{ seenAs h ⟨ss,e,t⟩ with pos:=7 },true) by (rw [← hX];simp [lk6,look6_at ex 4 hn]))
  have F8:=fun hn:ss=8=>(show X=(c,k0,true) by (rw [← hX,← hk0];simp [lk6,look6_at ex 8 hn]))
  have F10:=fun hn:ss=10=>(show X=(c,k0,true) by (rw [← hX,← hk0];simp [lk6,look6_at ex 10 hn]))
  have Fn:=fun (n0:¬ ss=0) (n1:¬ ss=1) (n4:¬ ss=4) (n8:¬ ss=8) (n10:¬ ss=10)=>(show X=x by (rw [← hX,hN];simp [lk6,look6_at ex ss rfl,n0,n1,n4,n8,n10]))
  replace F0:=Lib.hid F0
  replace F1:=Lib.hid F1
  replace F4:=Lib.hid F4
  replace F8:=Lib.hid F8
  replace F10:=Lib.hid F10
  replace Fn:=Lib.hid Fn
  replace AN:=Lib.hid AN
  clear hcell hx h1 h2 hc0 hc1 ex hX hk0 hN
  have o1:=O1.out
  have o2:=O2.out
  have HCI:=Lib.hid hci
  clear hci
  go_enter Tryz.func91,Tryz.ntmps91
  go_upto_region 1 with fail
  refine wp_region_inv [[],[],[1],[],[3],[1,2,3,4],[1,2,3,4,5],[0,1,2,3,4,5,6],[0,1,2,3,4,5,6,7]] [7,8,9,10,11,12,13,14] (fun l s wx=>(Below w.heap.size w wx)∧(hp wx w.heap.size=some (.cells (cvals c (.slice (some ⟨g,0,none⟩) c.cells.length q1) (.slice a2 c.words.length q2)) 27))∧(hp wx (w.heap.size+1)=some (.cells (cond (l 8) (hvals { h with seen:=ss,wait:=t }) (hvals h)) 31))∧(hp wx (w.heap.size+1+1)=some (.cells (cvals Ch.zero (.slice none 0 0) (.slice none 0 0)) 27))∧(hp wx (w.heap.size+1+1+1)=some (.cells (hvals Ha.zero) 31))∧(l 0=true→s 7=.agg (hvals h))∧(l 1=true→s 8=.pointer (some ⟨w.heap.size,4,none⟩))∧(l 2=true→s 9=.slice (some ⟨g,0,none⟩) c.cells.length q1)∧(l 3=true→s 10=.pointer (some ⟨w.heap.size+1,3,none⟩))∧(l 4=true→s 11=.int .i64 i)∧(l 5=true→s 12=.pointer (some ⟨g,i*3,none⟩))∧(l 6=true→s 13=.agg #[.int .i64 ss,.int .i64 e,.int .i64 t])∧(l 7=true→s 14=.agg (hvals { h with seen:=ss,wait:=t }))) (by kernel_rfl) (by kernel_rfl) (by kernel_rfl) (fun s=>by (simp only [fill,fillA,List.setIfInBounds_toArray,List.set_cons_zero,List.set_cons_succ];rfl)) (fun s=>⟨by exact zB,by simp [go_sem],by simp [go_sem],by simp [go_sem],by simp [go_sem],fun h=>absurd h Bool.false_ne_true,fun h=>absurd h Bool.false_ne_true,fun h=>absurd h Bool.false_ne_true,fun h=>absurd h Bool.false_ne_true,fun h=>absurd h Bool.false_ne_true,fun h=>absurd h Bool.false_ne_true,fun h=>absurd h Bool.false_ne_true,fun h=>absurd h Bool.false_ne_true⟩) ?_ ?_
  refine ⟨?_,?_,?_,?_,?_,?_,?_,?_,?_,trivial⟩;rotate_left 9
  · intro l s w0 hall hf
    have hCw0:=hf.1
    have z_w:=hf.2.1
    have z_wp:=hf.2.2.1
    have z_wpp:=hf.2.2.2.1
    have z_wppp:=hf.2.2.2.2.1
    rw [hall 8 rfl] at z_wp
    dsimp only [cond] at z_wp
    clear hf hall
    obtain ⟨x_w,f_w,l_w⟩:=bO z_w
    obtain ⟨x_wp,f_wp,l_wp⟩:=bO z_wp
    obtain ⟨x_wpp,f_wpp,l_wpp⟩:=bO z_wpp
    obtain ⟨x_wppp,f_wppp,l_wppp⟩:=bO z_wppp
    have p1:=own_below o1 hCw0
    have p2:=own_below o2 hCw0
    have hs0:=hCw0.size
    have hs4:w.heap.size+1+1+1+1≤w0.heap.size:=l_wppp
    by_cases n0:ss=0
    · subst n0
      have eX:=F0.out rfl
      subst eX
      go_wp2_with fail
      go_region_held3 (fun w'=>hp w' w.heap.size=some (.cells (cvals c (.slice (some ⟨g,0,none⟩) c.cells.length q1) (.slice a2 c.words.length q2)) 27)∧hp w' (w.heap.size+1)=some (.cells (hvals { h with seen:=0,wait:=t }) 31))
        (first|(simp [*,go_sem]))
        (first|((go_at_call 105;refine bHit w (by exact zB) fun bb=>?_;refine bHit w0 (by exact zB) fun bk=>?_;refine (moved_any _ _ _).mono ?_;rintro _ w1 ⟨rfl,hbw1⟩;have hCw1:Below w.heap.size w w1:=bT bb hbw1;have hsw1:=hbw1.size;(try simp at hsw1);have zz:=q4 hbw1 (b:=w.heap.size);(first|simp [go_sem,z_wppp,z_wpp,z_wp,z_w,l_w,l_wp,l_wpp,l_wppp] at zz|simp [go_sem] at zz|skip);(try clear z_wppp x_wppp f_wppp l_wppp);(try clear z_wpp x_wpp f_wpp l_wpp);(try clear z_wp x_wp f_wp l_wp);(try clear z_w x_w f_w l_w);obtain ⟨z_wppp,z_wpp,z_wp,z_w⟩:=zz;obtain ⟨x_wppp,f_wppp,l_wppp⟩:=bO z_wppp;obtain ⟨x_wpp,f_wpp,l_wpp⟩:=bO z_wpp;obtain ⟨x_wp,f_wp,l_wp⟩:=bO z_wp;obtain ⟨x_w,f_w,l_w⟩:=bO z_w;have hKw1:Below w0.heap.size w0 w1:=bT bk hbw1;clear hbw1 bb bk);have p1:=own_below p1 hKw1;have p2:=own_below p2 hKw1))
      go_wp2
      refine bodyPost_ret (res_cct Tryz.results91 rfl (ldChan c (.slice (some ⟨g,0,none⟩) c.cells.length q1) (.slice a2 c.words.length q2) (by simp [go_sem, *] <;> rfl)) rfl (ldHand { seenAs h ⟨0,e,t⟩ with pos:=4 } (by simp [go_sem, *] <;> first|rfl|simp [seenAs,anew,hci]))) rfl ⟨⟨_,_,rfl,?_,?_,fresh_refl _ _,fresh_refl _ _⟩,onlB (by exact zB)⟩
      · exact zO p1 o1
      · exact zO p2 o2
    by_cases n1:ss=1
    · subst n1
      have eX:=F1.out rfl
      subst eX
      go_wp2_with fail
      go_region_held3 (fun w'=>hp w' w.heap.size=some (.cells (cvals c (.slice (some ⟨g,0,none⟩) c.cells.length q1) (.slice a2 c.words.length q2)) 27)∧hp w' (w.heap.size+1)=some (.cells (hvals { h with seen:=1,wait:=t }) 31))
        (first|(simp [*,go_sem]))
        (first|((go_at_call 105;refine bHit w (by exact zB) fun bb=>?_;refine bHit w0 (by exact zB) fun bk=>?_;refine (moved_any _ _ _).mono ?_;rintro _ w1 ⟨rfl,hbw1⟩;have hCw1:Below w.heap.size w w1:=bT bb hbw1;have hsw1:=hbw1.size;(try simp at hsw1);have zz:=q4 hbw1 (b:=w.heap.size);(first|simp [go_sem,z_wppp,z_wpp,z_wp,z_w,l_w,l_wp,l_wpp,l_wppp] at zz|simp [go_sem] at zz|skip);(try clear z_wppp x_wppp f_wppp l_wppp);(try clear z_wpp x_wpp f_wpp l_wpp);(try clear z_wp x_wp f_wp l_wp);(try clear z_w x_w f_w l_w);obtain ⟨z_wppp,z_wpp,z_wp,z_w⟩:=zz;obtain ⟨x_wppp,f_wppp,l_wppp⟩:=bO z_wppp;obtain ⟨x_wpp,f_wpp,l_wpp⟩:=bO z_wpp;obtain ⟨x_wp,f_wp,l_wp⟩:=bO z_wp;obtain ⟨x_w,f_w,l_w⟩:=bO z_w;have hKw1:Below w0.heap.size w0 w1:=bT bk hbw1;clear hbw1 bb bk);have p1:=own_below p1 hKw1;have p2:=own_below p2 hKw1))
      go_wp2
      refine bodyPost_ret (res_cct Tryz.results91 rfl (ldChan c (.slice (some ⟨g,0,none⟩) c.cells.length q1) (.slice a2 c.words.length q2) (by simp [go_sem, *] <;> rfl)) rfl (ldHand { seenAs h ⟨1,e,t⟩ with pos:=6 } (by simp [go_sem, *] <;> first|rfl|simp [seenAs,anew,hci]))) rfl ⟨⟨_,_,rfl,?_,?_,fresh_refl _ _,fresh_refl _ _⟩,onlB (by exact zB)⟩
      · exact zO p1 o1
      · exact zO p2 o2
    by_cases n4:ss=4
    · subst n4
      have eX:=F4.out rfl
      subst eX
      go_wp2_with fail
      go_region_held3 (fun w'=>hp w' w.heap.size=some (.cells (cvals c (.slice (some ⟨g,0,none⟩) c.cells.length q1) (.slice a2 c.words.length q2)) 27)∧hp w' (w.heap.size+1)=some (.cells (hvals { h with seen:=4,wait:=t }) 31))
        (first|(simp [*,go_sem]))
        (first|((go_at_call 105;refine bHit w (by exact zB) fun bb=>?_;refine bHit w0 (by exact zB) fun bk=>?_;refine (moved_any _ _ _).mono ?_;rintro _ w1 ⟨rfl,hbw1⟩;have hCw1:Below w.heap.size w w1:=bT bb hbw1;have hsw1:=hbw1.size;(try simp at hsw1);have zz:=q4 hbw1 (b:=w.heap.size);(first|simp [go_sem,z_wppp,z_wpp,z_wp,z_w,l_w,l_wp,l_wpp,l_wppp] at zz|simp [go_sem] at zz|skip);(try clear z_wppp x_wppp f_wppp l_wppp);(try clear z_wpp x_wpp f_wpp l_wpp);(try clear z_wp x_wp f_wp l_wp);(try clear z_w x_w f_w l_w);obtain ⟨z_wppp,z_wpp,z_wp,z_w⟩:=zz;obtain ⟨x_wppp,f_wppp,l_wppp⟩:=bO z_wppp;obtain ⟨x_wpp,f_wpp,l_wpp⟩:=bO z_wpp;obtain ⟨x_wp,f_wp,l_wp⟩:=bO z_wp;obtain ⟨x_w,f_w,l_w⟩:=bO z_w;have hKw1:Below w0.heap.size w0 w1:=bT bk hbw1;clear hbw1 bb bk);have p1:=own_below p1 hKw1;have p2:=own_below p2 hKw1))
      go_wp2
      refine bodyPost_ret (res_cct Tryz.results91 rfl (ldChan c (.slice (some ⟨g,0,none⟩) c.cells.length q1) (.slice a2 c.words.length q2) (by simp [go_sem, *] <;> rfl)) rfl (ldHand { seenAs h ⟨4,e,t⟩ with pos:=7 } (by simp [go_sem, *] <;> first|rfl|simp [seenAs,anew,hci]))) rfl ⟨⟨_,_,rfl,?_,?_,fresh_refl _ _,fresh_refl _ _⟩,onlB (by exact zB)⟩
      · exact zO p1 o1
      · exact zO p2 o2
    by_cases n8:ss=8
    · subst n8
      have eX:=F8.out rfl
      subst eX
      go_wp2_with fail
      go_region_held3 (fun w'=>hp w' w.heap.size=some (.cells (cvals c (.slice (some ⟨g,0,none⟩) c.cells.length q1) (.slice a2 c.words.length q2)) 27)∧hp w' (w.heap.size+1)=some (.cells (hvals { h with seen:=8,wait:=t }) 31))
        (first|(simp [*,go_sem]))
        (first|((go_at_call 112;refine bHit w (by exact zB) fun bb=>?_;refine bHit w0 (by exact zB) fun bk=>?_;refine (AN.out _).mono ?_;rintro _ w1 ⟨rfl,hbw1⟩;have hCw1:Below w.heap.size w w1:=bT bb hbw1;have hsw1:=hbw1.size;(try simp at hsw1);have zz:=q4 hbw1 (b:=w.heap.size);(first|simp [go_sem,z_wppp,z_wpp,z_wp,z_w,l_w,l_wp,l_wpp,l_wppp] at zz|simp [go_sem] at zz|skip);(try clear z_wppp x_wppp f_wppp l_wppp);(try clear z_wpp x_wpp f_wpp l_wpp);(try clear z_wp x_wp f_wp l_wp);(try clear z_w x_w f_w l_w);obtain ⟨z_wppp,z_wpp,z_wp,z_w⟩:=zz;obtain ⟨x_wppp,f_wppp,l_wppp⟩:=bO z_wppp;obtain ⟨x_wpp,f_wpp,l_wpp⟩:=bO z_wpp;obtain ⟨x_wp,f_wp,l_wp⟩:=bO z_wp;obtain ⟨x_w,f_w,l_w⟩:=bO z_w;have hKw1:Below w0.heap.size w0 w1:=bT bk hbw1;clear hbw1 bb bk);have p1:=own_below p1 hKw1;have p2:=own_below p2 hKw1))
      go_wp2
      refine bodyPost_ret (res_cct Tryz.results91 rfl (ldChan c (.slice (some ⟨g,0,none⟩) c.cells.length q1) (.slice a2 c.words.length q2) (by simp [go_sem, *] <;> rfl)) rfl (ldHand k0 (by simp [go_sem, *] <;> first|rfl|simp [seenAs,anew,hci]))) rfl ⟨⟨_,_,rfl,?_,?_,fresh_refl _ _,fresh_refl _ _⟩,onlB (by exact zB)⟩
      · exact zO p1 o1
      · exact zO p2 o2
    by_cases n10:ss=10
    · subst n10
      have eX:=F10.out rfl
      subst eX
      go_wp2_with fail
      go_region_held3 (fun w'=>hp w' w.heap.size=some (.cells (cvals c (.slice (some ⟨g,0,none⟩) c.cells.length q1) (.slice a2 c.words.length q2)) 27)∧hp w' (w.heap.size+1)=some (.cells (hvals { h with seen:=10,wait:=t }) 31))
        (first|(simp [*,go_sem]))
        (first|((go_at_call 112;refine bHit w (by exact zB) fun bb=>?_;refine bHit w0 (by exact zB) fun bk=>?_;refine (AN.out _).mono ?_;rintro _ w1 ⟨rfl,hbw1⟩;have hCw1:Below w.heap.size w w1:=bT bb hbw1;have hsw1:=hbw1.size;(try simp at hsw1);have zz:=q4 hbw1 (b:=w.heap.size);(first|simp [go_sem,z_wppp,z_wpp,z_wp,z_w,l_w,l_wp,l_wpp,l_wppp] at zz|simp [go_sem] at zz|skip);(try clear z_wppp x_wppp f_wppp l_wppp);(try clear z_wpp x_wpp f_wpp l_wpp);(try clear z_wp x_wp f_wp l_wp);(try clear z_w x_w f_w l_w);obtain ⟨z_wppp,z_wpp,z_wp,z_w⟩:=zz;obtain ⟨x_wppp,f_wppp,l_wppp⟩:=bO z_wppp;obtain ⟨x_wpp,f_wpp,l_wpp⟩:=bO z_wpp;obtain ⟨x_wp,f_wp,l_wp⟩:=bO z_wp;obtain ⟨x_w,f_w,l_w⟩:=bO z_w;have hKw1:Below w0.heap.size w0 w1:=bT bk hbw1;clear hbw1 bb bk);have p1:=own_below p1 hKw1;have p2:=own_below p2 hKw1))
      go_wp2
      refine bodyPost_ret (res_cct Tryz.results91 rfl (ldChan c (.slice (some ⟨g,0,none⟩) c.cells.length q1) (.slice a2 c.words.length q2) (by simp [go_sem, *] <;> rfl)) rfl (ldHand k0 (by simp [go_sem, *] <;> first|rfl|simp [seenAs,anew,hci]))) rfl ⟨⟨_,_,rfl,?_,?_,fresh_refl _ _,fresh_refl _ _⟩,onlB (by exact zB)⟩
      · exact zO p1 o1
      · exact zO p2 o2
    have eX:=Fn.out n0 n1 n4 n8 n10
    have e0:(ss == 0)=false:=by simpa using n0
    have e1:(ss == 1)=false:=by simpa using n1
    have e4:(ss == 4)=false:=by simpa using n4
    have e8:(ss == 8)=false:=by simpa using n8
    have e10:(ss == 10)=false:=by simpa using n10
    obtain rfl:x=X:=eX.symm
    go_wp2_with fail
    refine (T.out _).mono ?_
    rintro _ w3 ⟨⟨y1,y2,rfl,oY1,oY2,fY1,fY2⟩,hbw3⟩
    have hO3:Onl (Value.slice (some ⟨g,0,none⟩) c.cells.length q1).ownBlock (Value.slice a2 c.words.length q2).ownBlock w w3:=onlT (onlB (by exact zB)) (onlB hbw3)
    have hsw3:=hbw3.size;(try simp at hsw3);have zz:=q4 hbw3 (b:=w.heap.size);(first|simp [go_sem,z_wppp,z_wpp,z_wp,z_w,l_w,l_wp,l_wpp,l_wppp] at zz|simp [go_sem] at zz|skip);(try clear z_wppp x_wppp f_wppp l_wppp);(try clear z_wpp x_wpp f_wpp l_wpp);(try clear z_wp x_wp f_wp l_wp);(try clear z_w x_w f_w l_w);obtain ⟨z_wppp,z_wpp,z_wp,z_w⟩:=zz;obtain ⟨x_wppp,f_wppp,l_wppp⟩:=bO z_wppp;obtain ⟨x_wpp,f_wpp,l_wpp⟩:=bO z_wpp;obtain ⟨x_wp,f_wp,l_wp⟩:=bO z_wp;obtain ⟨x_w,f_w,l_w⟩:=bO z_w;clear hbw3
    have hoff1:∀ j,w.heap.size≤j→j<w.heap.size+1+1+1+1→y1.ownBlock≠some j:=fun j h1 h2=>fY1.off b1 h1 (by (try simp) <;> omega);have hoff2:∀ j,w.heap.size≤j→j<w.heap.size+1+1+1+1→y2.ownBlock≠some j:=fun j h1 h2=>fY2.off b2 h1 (by (try simp) <;> omega);have fr1:Fresh w _ y1:=fun j hj=>(fY1 j hj).imp id (fun h=>Nat.le_trans (by (try simp) <;> omega) h);have fr2:Fresh w _ y2:=fun j hj=>(fY2 j hj).imp id (fun h=>Nat.le_trans (by (try simp) <;> omega) h);obtain ⟨ya,yp,rfl,_⟩:=oY1.seg;obtain ⟨yb,yq,rfl,_⟩:=oY2.seg
    go_wp2
    refine bodyPost_ret (res_cct Tryz.results91 rfl (ldChan x.1 (.slice ya x.1.cells.length yp) (.slice yb x.1.words.length yq) (by simp [go_sem, *])) rfl (ldHand x.2.1 (by simp [go_sem, *]))) rfl ⟨⟨_,_,rfl,?_,?_,fr1,fr2⟩,by (repeat (first|with_reducible assumption|with_reducible refine oA ?_|with_reducible refine oD ?_|((with_reducible refine oX ?_ ?_);rotate_left;(focus ((try dsimp only);(try simp);(try omega))))|((with_reducible refine oS ?_ ?_);rotate_left;(focus ((try dsimp only);(try simp);(try omega))))))⟩
    · exact zP oY1 oY1 hoff1
    · exact zP oY2 oY2 hoff2
  · intro l s wx hl hd hn hf0 K hK
    have hf:=Lib.hid hf0
    clear hf0
    have hB:=hf.out.1
    have zh:=hf.out.2.2.1
    rw [show l 8=false from hn 8 rfl] at zh
    dsimp only [cond] at zh
    have zc:=hf.out.2.1
    go_simp
    refine hK.out (upd s 7 (.agg (hvals h))) _ _ (by simp [upd_at] <;> rfl) ⟨hf.out.1,hf.out.2.1,hf.out.2.2.1,hf.out.2.2.2.1,hf.out.2.2.2.2.1,fun _=>rfl,hf.out.2.2.2.2.2.2.1,hf.out.2.2.2.2.2.2.2.1,hf.out.2.2.2.2.2.2.2.2.1,hf.out.2.2.2.2.2.2.2.2.2.1,hf.out.2.2.2.2.2.2.2.2.2.2.1,hf.out.2.2.2.2.2.2.2.2.2.2.2.1,nU (hn 7 rfl)⟩
  · intro l s wx hl hd hn hf0 K hK
    have hf:=Lib.hid hf0
    clear hf0
    have hB:=hf.out.1
    go_simp
    refine hK.out (upd s 8 (.pointer (some ⟨w.heap.size,4,none⟩))) _ _ (by simp [upd_at] <;> rfl) ⟨hf.out.1,hf.out.2.1,hf.out.2.2.1,hf.out.2.2.2.1,hf.out.2.2.2.2.1,hf.out.2.2.2.2.2.1,fun _=>rfl,nU (hn 2 rfl),hf.out.2.2.2.2.2.2.2.2.1,hf.out.2.2.2.2.2.2.2.2.2.1,nU (hn 5 rfl),nU (hn 6 rfl),nU (hn 7 rfl)⟩
  · intro l s wx hl hd hn hf0 K hK
    have hf:=Lib.hid hf0
    clear hf0
    have e1:=(hf.out.2.2.2.2.2.2.1 (hd 1 rfl))
    have hB:=hf.out.1
    have zh:=hf.out.2.2.1
    rw [show l 8=false from hn 8 rfl] at zh
    dsimp only [cond] at zh
    have zc:=hf.out.2.1
    have q:=(bO zc).1 4
    go_simp
    refine hK.out (upd s 9 (.slice (some ⟨g,0,none⟩) c.cells.length q1)) _ _ (by simp [upd_at,e1] <;> rfl) ⟨hf.out.1,hf.out.2.1,hf.out.2.2.1,hf.out.2.2.2.1,hf.out.2.2.2.2.1,hf.out.2.2.2.2.2.1,hf.out.2.2.2.2.2.2.1,fun _=>rfl,hf.out.2.2.2.2.2.2.2.2.1,hf.out.2.2.2.2.2.2.2.2.2.1,nU (hn 5 rfl),nU (hn 6 rfl),nU (hn 7 rfl)⟩
  · intro l s wx hl hd hn hf0 K hK
    have hf:=Lib.hid hf0
    clear hf0
    have hB:=hf.out.1
    go_simp
    refine hK.out (upd s 10 (.pointer (some ⟨w.heap.size+1,3,none⟩))) _ _ (by simp [upd_at] <;> rfl) ⟨hf.out.1,hf.out.2.1,hf.out.2.2.1,hf.out.2.2.2.1,hf.out.2.2.2.2.1,hf.out.2.2.2.2.2.1,hf.out.2.2.2.2.2.2.1,hf.out.2.2.2.2.2.2.2.1,fun _=>rfl,nU (hn 4 rfl),nU (hn 5 rfl),nU (hn 6 rfl),nU (hn 7 rfl)⟩
  · intro l s wx hl hd hn hf0 K hK
    have hf:=Lib.hid hf0
    clear hf0
    have e3:=(hf.out.2.2.2.2.2.2.2.2.1 (hd 3 rfl))
    have hB:=hf.out.1
    have zh:=hf.out.2.2.1
    rw [show l 8=false from hn 8 rfl] at zh
    dsimp only [cond] at zh
    have zc:=hf.out.2.1
    have q:wx.cell? ⟨w.heap.size+1,3,none⟩=some (.int .i64 i):=by rw [← HCI.out];exact (bO zh).1 3
    go_simp
    refine hK.out (upd s 11 (.int .i64 i)) _ _ (by simp [upd_at,e3] <;> rfl) ⟨hf.out.1,hf.out.2.1,hf.out.2.2.1,hf.out.2.2.2.1,hf.out.2.2.2.2.1,hf.out.2.2.2.2.2.1,hf.out.2.2.2.2.2.2.1,hf.out.2.2.2.2.2.2.2.1,hf.out.2.2.2.2.2.2.2.2.1,fun _=>rfl,nU (hn 5 rfl),nU (hn 6 rfl),nU (hn 7 rfl)⟩
  · intro l s wx hl hd hn hf0 K hK
    have hf:=Lib.hid hf0
    clear hf0
    have e2:=(hf.out.2.2.2.2.2.2.2.1 (hd 2 rfl))
    have e4:=(hf.out.2.2.2.2.2.2.2.2.2.1 (hd 4 rfl))
    have hB:=hf.out.1
    go_simp
    refine hK.out (upd s 12 (.pointer (some ⟨g,i*3,none⟩))) _ _ (by simp [upd_at,e2,e4] <;> rfl) ⟨hf.out.1,hf.out.2.1,hf.out.2.2.1,hf.out.2.2.2.1,hf.out.2.2.2.2.1,hf.out.2.2.2.2.2.1,hf.out.2.2.2.2.2.2.1,hf.out.2.2.2.2.2.2.2.1,hf.out.2.2.2.2.2.2.2.2.1,hf.out.2.2.2.2.2.2.2.2.2.1,fun _=>rfl,nU (hn 6 rfl),nU (hn 7 rfl)⟩
  · intro l s wx hl hd hn hf0 K hK
    have hf:=Lib.hid hf0
    clear hf0
    have e5:=(hf.out.2.2.2.2.2.2.2.2.2.2.1 (hd 5 rfl))
    have hB:=hf.out.1
    have y0:=(hB.cell (p:=⟨g,i*3,none⟩) hlt).trans c0
    have y1:=(hB.cell (p:=⟨g,i*3+1,none⟩) hlt).trans c1
    have y2:=(hB.cell (p:=⟨g,i*3+2,none⟩) hlt).trans c2
    go_simp
    refine hK.out (upd s 13 (.agg #[.int .i64 ss,.int .i64 e,.int .i64 t])) _ _ (by simp [upd_at,e5] <;> rfl) ⟨hf.out.1,hf.out.2.1,hf.out.2.2.1,hf.out.2.2.2.1,hf.out.2.2.2.2.1,hf.out.2.2.2.2.2.1,hf.out.2.2.2.2.2.2.1,hf.out.2.2.2.2.2.2.2.1,hf.out.2.2.2.2.2.2.2.2.1,hf.out.2.2.2.2.2.2.2.2.2.1,hf.out.2.2.2.2.2.2.2.2.2.2.1,fun _=>rfl,nU (hn 7 rfl)⟩
  · intro l s wx hl hd hn hf0 K hK
    have hf:=Lib.hid hf0
    clear hf0
    have e0:=(hf.out.2.2.2.2.2.1 (hd 0 rfl))
    have e6:=(hf.out.2.2.2.2.2.2.2.2.2.2.2.1 (hd 6 rfl))
    have hB:=hf.out.1
    go_simp
    go_at_call 111
    refine (saw_any h ss e t _).mono ?_
    rintro _ wy ⟨rfl,hE⟩
    refine hK.out (upd s 14 (.agg (hvals { h with seen:=ss,wait:=t }))) _ _ (by simp [upd_at,e0,e6] <;> rfl) ⟨bT hf.out.1 hE,hpS hf.out.2.1 hE,hpS hf.out.2.2.1 hE,hpS hf.out.2.2.2.1 hE,hpS hf.out.2.2.2.2.1 hE,hf.out.2.2.2.2.2.1,hf.out.2.2.2.2.2.2.1,hf.out.2.2.2.2.2.2.2.1,hf.out.2.2.2.2.2.2.2.2.1,hf.out.2.2.2.2.2.2.2.2.2.1,hf.out.2.2.2.2.2.2.2.2.2.2.1,hf.out.2.2.2.2.2.2.2.2.2.2.2.1,fun _=>rfl⟩
  · intro l s wx hl hd hn hf0 K hK
    have hf:=Lib.hid hf0
    clear hf0
    have e7:=(hf.out.2.2.2.2.2.2.2.2.2.2.2.2 (hd 7 rfl))
    have hB:=hf.out.1
    have zh:=hf.out.2.2.1
    rw [hl] at zh
    dsimp only [cond] at zh
    have zc:=hf.out.2.1
    go_simp
    refine hK.out (s) _ _ (by simp [upd_at,e7] <;> rfl) ⟨bBx hB (by omega),(bx_heap_ne (by omega)).trans zc,hp_set zh,(bx_heap_ne (by omega)).trans hf.out.2.2.2.1,(bx_heap_ne (by omega)).trans hf.out.2.2.2.2.1,hf.out.2.2.2.2.2.1,hf.out.2.2.2.2.2.2.1,hf.out.2.2.2.2.2.2.2.1,hf.out.2.2.2.2.2.2.2.2.1,hf.out.2.2.2.2.2.2.2.2.2.1,hf.out.2.2.2.2.2.2.2.2.2.2.1,hf.out.2.2.2.2.2.2.2.2.2.2.2.1,hf.out.2.2.2.2.2.2.2.2.2.2.2.2⟩
end Go.Proofs.YtkiingmgpobgnaaGreat
set_option linter.unusedSimpArgs false
set_option linter.unusedVariables false
namespace Go.Proofs.YtkiingmgpobgnaaGreat
open Go.RowKit
set_option linter.unusedSimpArgs false
attribute [local simp] bx_size
attribute [local go_sem ↓] zeroHand zeroChan toLHand toLChan toVHand toVChan storeHand storeChan storeHandC storeChanC
attribute [local go_sem ↓] funcNil
def fin6 (x:St):St:=if x.2.2 then done x.1 x.2.1 else nothing
theorem turnC_no {c:Ch} {i f t v:Int} (h:turnCB c i f t v=false):turnC c i f t v=c:=by
  have e:turnX (cellAt c i) f t v=cellAt c i:=by
    have h2:turnB (cellAt c i).s (cellAt c i).e (cellAt c i).t f t v=false:=h
    simp [turnX,turnS,turnW,h2]
  unfold turnC setAt
  rw [e]
  unfold cellAt
  have:c.cells.set i.toNat (c.cells.getD i.toNat ⟨0,0,0⟩)=c.cells:=by
    apply List.ext_getElem?
    intro n
    rw [List.getElem?_set]
    by_cases hn:i.toNat=n
    · subst hn
      by_cases hl:i.toNat<c.cells.length
      · simp [hl]
      · simp [hl,Nat.le_of_not_lt hl]
    · simp [hn]
  rw [this]
theorem fin_ok (c:Ch) (h:Ha):fin6 (c,h,true)=done c h:=rfl
theorem fin_put (c:Ch) (h:Ha) (hs:h.seen=0∨h.seen=1∨(h.seen≠0∧h.seen≠1)):fin6 (putS c h)=put6 c h:=by
  have K:fin6 (keep6 c h)=if turnCB c h.cell h.seen 2 0 then done (turnC c h.cell h.seen 2 0) (resting 1 0) else done (turnC c h.cell h.seen 2 0) { h with pos:=3 }:=by
    unfold keep6
    cases ht:turnCB c h.cell h.seen 2 0 with
    | true=>simp [fin_ok]
    | false=>simp [fin_ok,turnC_no ht]
  have Wt:fin6 (wt6 c h)=done (wait6 c h 3 23 3).1 (wait6 c h 3 23 3).2:=by
    unfold wt6 wtS wait6
    by_cases hf:80≤c.words.length
    · simp [hf,fin_ok]
    · cases ht:turnCB c h.cell h.seen 3 (c.words.length+1) with
      | true=>simp [hf,fin_ok]
      | false=>simp [hf,fin_ok,turnC_no ht]
  unfold putS put6
  rcases hs with h0|h0|⟨h0,h1⟩
  · have e0:(h.seen == 1)=false:=by simp [h0]
    have e1:(h.seen == 0)=true:=by simp [h0]
    have e2:(h.seen != 0 && h.seen != 1)=false:=by simp [h0]
    rw [e2]
    by_cases hx:h.cell<(if h.come<h.fin then h.fin else h.come)
    · have hk:putK h=true:=by simp [putK,e1,hx]
      have hn:(h.seen == 0 && (decide (h.come≤h.cell) && decide (h.fin≤h.cell)))=false:=by
        rw [e1]
        simp
        split at hx <;> omega
      rw [hk,hn]
      simpa using K
    · have hk:putK h=false:=by simp [putK,e0,hx]
      have hn:(h.seen == 0 && (decide (h.come≤h.cell) && decide (h.fin≤h.cell)))=true:=by
        rw [e1]
        simp
        split at hx <;> omega
      rw [hk,hn,e1]
      simpa using Wt
  · have e1:(h.seen == 0)=false:=by simp [h0]
    have e2:(h.seen != 0 && h.seen != 1)=false:=by simp [h0]
    have hk:putK h=true:=by simp [putK,h0]
    rw [hk,e2,e1]
    simpa using K
  · have e0:(h.seen == 1)=false:=by simpa using h1
    have e1:(h.seen == 0)=false:=by simpa using h0
    have e2:(h.seen != 0 && h.seen != 1)=true:=by simp [h0,h1]
    have hk:putK h=false:=by simp [putK,e0,e1]
    rw [hk,e2,e1]
    rfl
theorem fin76 (x:St) (h:x.2.2=true∨x=nothing):fin7 x=fin6 x:=by
  rcases h with h|h
  · obtain ⟨c,y,ok⟩:=x
    cases h
    rfl
  · subst h
    rfl
theorem put_ok (c:Ch) (h:Ha):(putS c h).2.2=true∨putS c h=nothing:=by
  unfold putS keep6 wt6 wtS
  repeat' split
  all_goals first|exact .inl rfl|exact .inr rfl
theorem lk_ok (c:Ch) (h:Ha):(lk6 c h).2.2=true∨lk6 c h=nothing:=by
  unfold lk6
  split
  · exact .inl rfl
  · exact .inr rfl
set_option maxRecDepth 100000 in
set_option maxHeartbeats 2000000 in
theorem sendTouch_no (c:Ch) (h:Ha) (v1 v2:Value) (lo:Nat) (w:World) (h1:OCells w lo v1 c.cells) (h2:OInts w lo v2 c.words) (hk:(h.code != 1)=true) :
    Calls Tryz.prog 22 #[.agg (cvals c v1 v2),.agg (hvals h)] w fun r w'=>StepO w w' lo v1 v2 (nothing) r:=by
  have T:=Lib.hid fun W=>refused_any W lo v1 v2
  have TT:=Lib.hid fun w=>touches_any w
  generalize nothing=x at *
  have b1:=fun j (hj:v1.ownBlock=some j)=>(h1.lt j hj).2
  have b2:=fun j (hj:v2.ownBlock=some j)=>(h2.lt j hj).2
  have m1:∀ j,w.heap.size≤j→some j≠v1.ownBlock:=fun j hj e=>by have:=b1 _ e.symm;omega
  have m2:∀ j,w.heap.size≤j→some j≠v2.ownBlock:=fun j hj e=>by have:=b2 _ e.symm;omega
  have m10:=m1 (w.heap.size) (by omega)
  have m11:=m1 (w.heap.size+1) (by omega)
  have m12:=m1 (w.heap.size+1+1) (by omega)
  have m13:=m1 (w.heap.size+1+1+1) (by omega)
  have m20:=m2 (w.heap.size) (by omega)
  have m21:=m2 (w.heap.size+1) (by omega)
  have m22:=m2 (w.heap.size+1+1) (by omega)
  have m23:=m2 (w.heap.size+1+1+1) (by omega)
  have o1:=h1
  have o2:=h2
  obtain ⟨a1,q1,e1,_⟩:=h1.seg
  obtain ⟨a2,q2,e2,_⟩:=h2.seg
  subst e1 e2
  clear h1 h2
  go_enter Tryz.func22,Tryz.ntmps22
  go_wp2_with fail;refine bHit w (by exact zB) fun bb=>?_;refine (TT.out _).mono ?_;rintro _ w1 ⟨rfl,hbw1⟩;have hCw1:Below w.heap.size w w1:=bT bb hbw1;have hsw1:=hbw1.size;(try simp at hsw1);have zz:=q4 hbw1 (b:=w.heap.size);(try simp [go_sem] at zz);(try clear z_wppp x_wppp f_wppp l_wppp);(try clear z_wpp x_wpp f_wpp l_wpp);(try clear z_wp x_wp f_wp l_wp);(try clear z_w x_w f_w l_w);obtain ⟨z_wppp,z_wpp,z_wp,z_w⟩:=zz;obtain ⟨x_wppp,f_wppp,l_wppp⟩:=bO z_wppp;obtain ⟨x_wpp,f_wpp,l_wpp⟩:=bO z_wpp;obtain ⟨x_wp,f_wp,l_wp⟩:=bO z_wp;obtain ⟨x_w,f_w,l_w⟩:=bO z_w;have hKw1:Below w.heap.size w w1:=hCw1;clear hbw1 bb
  unfold tbl
  go_wp2_with fail
  refine (T.out _).mono ?_
  rintro _ w3 ⟨⟨y1,y2,rfl,oY1,oY2,fY1,fY2⟩,hbw3⟩
  have hO:=onlB (a:=(Value.slice a1 c.cells.length q1).ownBlock) (b:=(Value.slice a2 c.words.length q2).ownBlock) hbw3
  have hO3:Onl (Value.slice a1 c.cells.length q1).ownBlock (Value.slice a2 c.words.length q2).ownBlock w w3:=onlT (onlB (by exact zB)) hO
  have hsw3:=hO.2.2.2.1;(try (simp at hsw3));have zz:=And.intro (onlHp hO (i:=w.heap.size+1+1+1) (by (try simp) <;> omega) (by assumption) (by assumption)) <| And.intro (onlHp hO (i:=w.heap.size+1+1) (by (try simp) <;> omega) (by assumption) (by assumption)) <| And.intro (onlHp hO (i:=w.heap.size+1) (by (try simp) <;> omega) (by assumption) (by assumption)) <| onlHp hO (i:=w.heap.size) (by (try simp) <;> omega) (by assumption) (by assumption);(first|simp [go_sem,z_wppp,z_wpp,z_wp,z_w,l_w,l_wp,l_wpp,l_wppp] at zz|simp [go_sem] at zz|skip);(try clear z_wppp x_wppp f_wppp l_wppp);(try clear z_wpp x_wpp f_wpp l_wpp);(try clear z_wp x_wp f_wp l_wp);(try clear z_w x_w f_w l_w);obtain ⟨z_wppp,z_wpp,z_wp,z_w⟩:=zz;obtain ⟨x_wppp,f_wppp,l_wppp⟩:=bO z_wppp;obtain ⟨x_wpp,f_wpp,l_wpp⟩:=bO z_wpp;obtain ⟨x_wp,f_wp,l_wp⟩:=bO z_wp;obtain ⟨x_w,f_w,l_w⟩:=bO z_w
  clear hO hbw3
  have hoff1:∀ j,w.heap.size≤j→j<w.heap.size+1+1+1+1→y1.ownBlock≠some j:=fun j h1 h2=>fY1.off b1 h1 (by (try simp) <;> omega);have hoff2:∀ j,w.heap.size≤j→j<w.heap.size+1+1+1+1→y2.ownBlock≠some j:=fun j h1 h2=>fY2.off b2 h1 (by (try simp) <;> omega);have fr1:Fresh w _ y1:=fun j hj=>(fY1 j hj).imp id (fun h=>Nat.le_trans (by (try simp) <;> omega) h);have fr2:Fresh w _ y2:=fun j hj=>(fY2 j hj).imp id (fun h=>Nat.le_trans (by (try simp) <;> omega) h);obtain ⟨ya,yp,rfl,_⟩:=oY1.seg;obtain ⟨yb,yq,rfl,_⟩:=oY2.seg
  go_wp2
  refine bodyPost_ret (res_cct Tryz.results22 rfl (ldChan x.1 (.slice ya x.1.cells.length yp) (.slice yb x.1.words.length yq) (by simp [go_sem, *])) rfl (ldHand x.2.1 (by simp [go_sem, *]))) rfl ⟨⟨_,_,rfl,?_,?_,fr1,fr2⟩,by (repeat (first|with_reducible assumption|with_reducible refine oA ?_|with_reducible refine oD ?_|((with_reducible refine oX ?_ ?_);rotate_left;(focus ((try dsimp only);(try simp);(try omega))))|((with_reducible refine oS ?_ ?_);rotate_left;(focus ((try dsimp only);(try simp);(try omega))))))⟩
  · exact zP oY1 oY1 hoff1
  · exact zP oY2 oY2 hoff2
set_option maxRecDepth 100000 in
set_option maxHeartbeats 2000000 in
theorem sendTouch_far (c:Ch) (h:Ha) (v1 v2:Value) (lo:Nat) (w:World) (h1:OCells w lo v1 c.cells) (h2:OInts w lo v2 c.words) (hk:(h.code != 1)=false) (hp:(9:Int)≤h.pos) :
    Calls Tryz.prog 22 #[.agg (cvals c v1 v2),.agg (hvals h)] w fun r w'=>StepO w w' lo v1 v2 (nothing) r:=by
  have T:=Lib.hid fun W=>refused_any W lo v1 v2
  have TT:=Lib.hid fun w=>touches_any w
  generalize nothing=x at *
  have b1:=fun j (hj:v1.ownBlock=some j)=>(h1.lt j hj).2
  have b2:=fun j (hj:v2.ownBlock=some j)=>(h2.lt j hj).2
  have m1:∀ j,w.heap.size≤j→some j≠v1.ownBlock:=fun j hj e=>by have:=b1 _ e.symm;omega
  have m2:∀ j,w.heap.size≤j→some j≠v2.ownBlock:=fun j hj e=>by have:=b2 _ e.symm;omega
  have m10:=m1 (w.heap.size) (by omega)
  have m11:=m1 (w.heap.size+1) (by omega)
  have m12:=m1 (w.heap.size+1+1) (by omega)
  have m13:=m1 (w.heap.size+1+1+1) (by omega)
  have m20:=m2 (w.heap.size) (by omega)
  have m21:=m2 (w.heap.size+1) (by omega)
  have m22:=m2 (w.heap.size+1+1) (by omega)
  have m23:=m2 (w.heap.size+1+1+1) (by omega)
  have o1:=h1
  have o2:=h2
  obtain ⟨a1,q1,e1,_⟩:=h1.seg
  obtain ⟨a2,q2,e2,_⟩:=h2.seg
  subst e1 e2
  clear h1 h2
  go_enter Tryz.func22,Tryz.ntmps22
  go_wp2_with fail;refine bHit w (by exact zB) fun bb=>?_;refine (TT.out _).mono ?_;rintro _ w1 ⟨rfl,hbw1⟩;have hCw1:Below w.heap.size w w1:=bT bb hbw1;have hsw1:=hbw1.size;(try simp at hsw1);have zz:=q4 hbw1 (b:=w.heap.size);(try simp [go_sem] at zz);(try clear z_wppp x_wppp f_wppp l_wppp);(try clear z_wpp x_wpp f_wpp l_wpp);(try clear z_wp x_wp f_wp l_wp);(try clear z_w x_w f_w l_w);obtain ⟨z_wppp,z_wpp,z_wp,z_w⟩:=zz;obtain ⟨x_wppp,f_wppp,l_wppp⟩:=bO z_wppp;obtain ⟨x_wpp,f_wpp,l_wpp⟩:=bO z_wpp;obtain ⟨x_wp,f_wp,l_wp⟩:=bO z_wp;obtain ⟨x_w,f_w,l_w⟩:=bO z_w;have hKw1:Below w.heap.size w w1:=hCw1;clear hbw1 bb
  unfold tbl
  go_wp2_with fail
  refine (T.out _).mono ?_
  rintro _ w3 ⟨⟨y1,y2,rfl,oY1,oY2,fY1,fY2⟩,hbw3⟩
  have hO:=onlB (a:=(Value.slice a1 c.cells.length q1).ownBlock) (b:=(Value.slice a2 c.words.length q2).ownBlock) hbw3
  have hO3:Onl (Value.slice a1 c.cells.length q1).ownBlock (Value.slice a2 c.words.length q2).ownBlock w w3:=onlT (onlB (by exact zB)) hO
  have hsw3:=hO.2.2.2.1;(try (simp at hsw3));have zz:=And.intro (onlHp hO (i:=w.heap.size+1+1+1) (by (try simp) <;> omega) (by assumption) (by assumption)) <| And.intro (onlHp hO (i:=w.heap.size+1+1) (by (try simp) <;> omega) (by assumption) (by assumption)) <| And.intro (onlHp hO (i:=w.heap.size+1) (by (try simp) <;> omega) (by assumption) (by assumption)) <| onlHp hO (i:=w.heap.size) (by (try simp) <;> omega) (by assumption) (by assumption);(first|simp [go_sem,z_wppp,z_wpp,z_wp,z_w,l_w,l_wp,l_wpp,l_wppp] at zz|simp [go_sem] at zz|skip);(try clear z_wppp x_wppp f_wppp l_wppp);(try clear z_wpp x_wpp f_wpp l_wpp);(try clear z_wp x_wp f_wp l_wp);(try clear z_w x_w f_w l_w);obtain ⟨z_wppp,z_wpp,z_wp,z_w⟩:=zz;obtain ⟨x_wppp,f_wppp,l_wppp⟩:=bO z_wppp;obtain ⟨x_wpp,f_wpp,l_wpp⟩:=bO z_wpp;obtain ⟨x_wp,f_wp,l_wp⟩:=bO z_wp;obtain ⟨x_w,f_w,l_w⟩:=bO z_w
  clear hO hbw3
  have hoff1:∀ j,w.heap.size≤j→j<w.heap.size+1+1+1+1→y1.ownBlock≠some j:=fun j h1 h2=>fY1.off b1 h1 (by (try simp) <;> omega);have hoff2:∀ j,w.heap.size≤j→j<w.heap.size+1+1+1+1→y2.ownBlock≠some j:=fun j h1 h2=>fY2.off b2 h1 (by (try simp) <;> omega);have fr1:Fresh w _ y1:=fun j hj=>(fY1 j hj).imp id (fun h=>Nat.le_trans (by (try simp) <;> omega) h);have fr2:Fresh w _ y2:=fun j hj=>(fY2 j hj).imp id (fun h=>Nat.le_trans (by (try simp) <;> omega) h);obtain ⟨ya,yp,rfl,_⟩:=oY1.seg;obtain ⟨yb,yq,rfl,_⟩:=oY2.seg
  go_wp2
  refine bodyPost_ret (res_cct Tryz.results22 rfl (ldChan x.1 (.slice ya x.1.cells.length yp) (.slice yb x.1.words.length yq) (by simp [go_sem, *])) rfl (ldHand x.2.1 (by simp [go_sem, *]))) rfl ⟨⟨_,_,rfl,?_,?_,fr1,fr2⟩,by (repeat (first|with_reducible assumption|with_reducible refine oA ?_|with_reducible refine oD ?_|((with_reducible refine oX ?_ ?_);rotate_left;(focus ((try dsimp only);(try simp);(try omega))))|((with_reducible refine oS ?_ ?_);rotate_left;(focus ((try dsimp only);(try simp);(try omega))))))⟩
  · exact zP oY1 oY1 hoff1
  · exact zP oY2 oY2 hoff2
theorem sendTouch_any (c:Ch) (h:Ha) (hc:chanOk c=true) (hh:handOk h=true):∃ x:St,sendStep c h=fin7 x∧∀ (v1 v2:Value) (lo:Nat) (W:World),OCells W lo v1 c.cells→OInts W lo v2 c.words→lo≤W.heap.size→Calls Tryz.prog 22 #[.agg (cvals c v1 v2),.agg (hvals h)] W fun r w'=>StepO W w' lo v1 v2 x r:=by
  cases hk:(h.code != 1) with
  | true =>
    have hk2:¬ h.code=1:=by simpa using hk
    exact ⟨nothing,by simp [sendStep,stepOk,hk2];rfl,fun v1 v2 lo W o1 o2 _=>sendTouch_no c h v1 v2 lo W o1 o2 hk⟩
  | false =>
    have hk1:h.code=1:=by simpa using hk
    have hr:0≤h.pos∧h.pos≠0∧callOk h.code h.elem=true:=by
      have:=hh
      simp only [handOk,handA,Bool.and_eq_true,inB_iff] at this
      by_cases h0:h.pos=0
      · simp [h0,noCall,hk1] at this
      · simp [h0] at this
        exact ⟨this.1.1.1,h0,this.1.2⟩
    obtain ⟨hr0,hr1,hcall⟩:=hr
    obtain ⟨hc0,hc9⟩:=hand_cell hh
    have hc1:h.cell<c.cells.length:=by have:=(chan_len hc).1;omega
    by_cases hp9:9≤h.pos
    · have hno:stepOk c h 1 8 1=false:=by
        have:inB h.pos 1 8=false:=by simp [inB];omega
        simp [stepOk,this]
      exact ⟨nothing,by simp [sendStep,hno];rfl,fun v1 v2 lo W o1 o2 _=>sendTouch_far c h v1 v2 lo W o1 o2 hk hp9⟩
    have hok:stepOk c h 1 8 1=true:=by
      have:inB h.pos 1 8=true:=by simp [inB];omega
      simp [stepOk,hc,hh,this,hk1]
    have hps:h.pos=1∨h.pos=2∨h.pos=3∨h.pos=4∨h.pos=5∨h.pos=6∨h.pos=7∨h.pos=8:=by omega
    rcases hps with hp|hp|hp|hp|hp|hp|hp|hp
    · by_cases hs:c.sent=40
      · skip
        refine ⟨(c,resting 4 0,true),?_,fun v1 v2 lo W o1 o2 hl=>sendTouch_via 89 1 ((c,resting 4 0,true)) c h v1 v2 lo W o1 o2 hl hk1 hp (by omega) rfl (fun args w=>by simp [go_sem]) (fun v1 v2 lo W o1 o2 hl=>sendNumber_a c h v1 v2 lo W o1 o2 hs)⟩
        rw [fin76 _ (.inl rfl)]
        simp [sendStep,hok,hp,send1,hs,fin_ok]
      · skip
        refine ⟨({ c with sent:=c.sent+1 },{ h with cell:=c.sent,pos:=2 },true),?_,fun v1 v2 lo W o1 o2 hl=>sendTouch_via 89 1 (({ c with sent:=c.sent+1 },{ h with cell:=c.sent,pos:=2 },true)) c h v1 v2 lo W o1 o2 hl hk1 hp (by omega) rfl (fun args w=>by simp [go_sem]) (fun v1 v2 lo W o1 o2 hl=>sendNumber_b c h v1 v2 lo W o1 o2 hs (chan_sent hc))⟩
        rw [fin76 _ (.inl rfl)]
        simp [sendStep,hok,hp,send1,hs,fin_ok]
    · skip
      refine ⟨(layC c h.cell h.elem,{ h with pos:=3 },true),?_,fun v1 v2 lo W o1 o2 hl=>sendTouch_via 90 2 ((layC c h.cell h.elem,{ h with pos:=3 },true)) c h v1 v2 lo W o1 o2 hl hk1 hp (by omega) rfl (fun args w=>by simp [go_sem]) (fun v1 v2 lo W o1 o2 hl=>sendLay_any c h v1 v2 lo W o1 o2 hc0 hc1)⟩
      rw [fin76 _ (.inl rfl)]
      simp [sendStep,hok,hp,send2,fin_ok]
    · have el:sendStep c h=fin6 (lk6 c h):=by
        simp only [sendStep,hok,hp,send3]
        cases hl:(look6 c h).2 <;> simp [lk6,hl,fin6,nothing]
      refine ⟨lk6 c h,el.trans (fin76 _ (lk_ok c h)).symm,?_⟩
      exact fun v1 v2 lo W o1 o2 hl=>sendTouch_via 91 3 (lk6 c h) c h v1 v2 lo W o1 o2 hl hk1 hp (by omega) rfl (fun args w=>by simp [go_sem]) (fun v1 v2 lo W o1 o2 hl=>sendLook_any c h v1 v2 lo W o1 o2 hc0 hc1 hcall)
    · skip
      refine ⟨(c,{ h with fin:=c.fin,pos:=5 },true),?_,fun v1 v2 lo W o1 o2 hl=>sendTouch_via 92 4 ((c,{ h with fin:=c.fin,pos:=5 },true)) c h v1 v2 lo W o1 o2 hl hk1 hp (by omega) rfl (fun args w=>by simp [go_sem]) (fun v1 v2 lo W o1 o2 hl=>sendEnd_any c h v1 v2 lo W o1 o2)⟩
      rw [fin76 _ (.inl rfl)]
      simp [sendStep,hok,hp,fin_ok]
    · skip
      refine ⟨(c,{ h with come:=c.got,pos:=6 },true),?_,fun v1 v2 lo W o1 o2 hl=>sendTouch_via 93 5 ((c,{ h with come:=c.got,pos:=6 },true)) c h v1 v2 lo W o1 o2 hl hk1 hp (by omega) rfl (fun args w=>by simp [go_sem]) (fun v1 v2 lo W o1 o2 hl=>sendCome_any c h v1 v2 lo W o1 o2)⟩
      rw [fin76 _ (.inl rfl)]
      simp [sendStep,hok,hp,fin_ok]
    · skip
      refine ⟨putS c h,?_,fun v1 v2 lo W o1 o2 hl=>sendTouch_via 94 6 (putS c h) c h v1 v2 lo W o1 o2 hl hk1 hp (by omega) rfl (fun args w=>by simp [go_sem]) (fun v1 v2 lo W o1 o2 hl=>sendPut_any c h v1 v2 lo W o1 o2 hc0 hc1 hc hl)⟩
      rw [fin76 _ (put_ok c h),fin_put c h (by omega)]
      simp [sendStep,hok,hp]
    · skip
      refine ⟨cl6 c h,?_,fun v1 v2 lo W o1 o2 hl=>sendTouch_via 95 7 (cl6 c h) c h v1 v2 lo W o1 o2 hl hk1 hp (by omega) rfl (fun args w=>by simp [go_sem]) (fun v1 v2 lo W o1 o2 hl=>sendCall_any c h v1 v2 lo W o1 o2 hc hl hcall)⟩
      rw [fin76 _ (by unfold cl6 wkS;split <;> exact .inl rfl)]
      unfold cl6 wkS
      cases ht:tellB c h.wait 1 with
      | true=>simp [sendStep,hok,hp,call6,ht,fin_ok]
      | false=>simp [sendStep,hok,hp,call6,ht,fin_ok,tellC_no ht]
    · skip
      refine ⟨(stateC c h.cell 7,resting 1 0,true),?_,fun v1 v2 lo W o1 o2 hl=>sendTouch_via 96 8 ((stateC c h.cell 7,resting 1 0,true)) c h v1 v2 lo W o1 o2 hl hk1 hp (by omega) rfl (fun args w=>by simp [go_sem]) (fun v1 v2 lo W o1 o2 hl=>sendDone_any c h v1 v2 lo W o1 o2 hc0 hc1)⟩
      rw [fin76 _ (.inl rfl)]
      simp [sendStep,hok,hp,fin_ok]
set_option maxRecDepth 100000 in
set_option maxHeartbeats 2000000 in
theorem sendStepI_any (c:Ch) (h:Ha) (a b:Option Addr) (p q:Nat) (w:World) (h1:Seg w w.heap.size a c.cells.length 3 (cellF c.cells)) (z1:a=none→p=0) (h2:Seg w w.heap.size b c.words.length 1 (intF c.words)) (z2:b=none→q=0) (l1:c.cells.length≤maxLen) (l2:c.words.length≤maxLen) :
    Calls Tryz.prog 7 #[.agg (cvals c (.slice a c.cells.length p) (.slice b c.words.length q)),.agg (hvals h)] w fun r w'=>StepN w w' (sendStep c h) r:=by
  have K:∀ (w:World),Seg w w.heap.size a c.cells.length 3 (cellF c.cells)→(a=none→p=0)→Seg w w.heap.size b c.words.length 1 (intF c.words)→(b=none→q=0)→Calls Tryz.prog 21 #[.func (.func 22) #[] #[],.agg (cvals c (.slice a c.cells.length p) (.slice b c.words.length q)),.agg (hvals h)] w fun r w'=>StepN w w' (sendStep c h) r:=by
    intro w h1 z1 h2 z2
    cases hc:chanOk c with
    | false =>
      rw [show sendStep c h=nothing by simp [sendStep,stepOk,hc]]
      exact touched_no1 _ c h a b p q w h1 z1 h2 z2 l1 l2 hc
    | true =>
      cases hh:handOk h with
      | false =>
        rw [show sendStep c h=nothing by simp [sendStep,stepOk,hh]]
        exact touched_no2 _ c h a b p q w h1 z1 h2 z2 l1 l2 hc hh
      | true =>
        obtain ⟨x,e,HT⟩:=sendTouch_any c h hc hh
        rw [e]
        exact touched_via _ x c h a b p q w h1 z1 h2 z2 hc hh (fun args w=>by simp [go_sem]) HT
  generalize sendStep c h=x at *
  have T:=Lib.hid K
  have H1:=Lib.hid h1
  have H2:=Lib.hid h2
  have Z1:=Lib.hid z1
  have Z2:=Lib.hid z2
  clear h1 h2 z1 z2 K
  have d1:∀ j,(Value.slice none 0 0).ownBlock=some j→w.heap.size+1+1+1+1≤j:=fun j hj=>by cases hj
  have d2:=d1
  go_enter Tryz.func7,Tryz.ntmps7
  go_wp2_with fail;refine bHit w (by exact zB) fun bb=>?_;refine (T.out _ ((H1.out.below bb).more bb.size) Z1.out ((H2.out.below bb).more bb.size) Z2.out).mono ?_;rintro _ w9 ⟨⟨y1,y2,rfl,oY1,oY2,fY1,fY2⟩,hbw9⟩;have hCw9:Below w.heap.size w w9:=bT bb hbw9;have hsw9:=hbw9.size;(try simp at hsw9);have zz:=q4 hbw9 (b:=w.heap.size);(try simp [go_sem] at zz);(try clear z_wppp x_wppp f_wppp l_wppp);(try clear z_wpp x_wpp f_wpp l_wpp);(try clear z_wp x_wp f_wp l_wp);(try clear z_w x_w f_w l_w);obtain ⟨z_wppp,z_wpp,z_wp,z_w⟩:=zz;obtain ⟨x_wppp,f_wppp,l_wppp⟩:=bO z_wppp;obtain ⟨x_wpp,f_wpp,l_wpp⟩:=bO z_wpp;obtain ⟨x_wp,f_wp,l_wp⟩:=bO z_wp;obtain ⟨x_w,f_w,l_w⟩:=bO z_w;clear hbw9 bb
  replace oY1:OCells w9 w.heap.size y1 x.1.cells:=own_lo oY1 (by simp;omega)
  replace oY2:OInts w9 w.heap.size y2 x.1.words:=own_lo oY2 (by simp;omega)
  have hoff1:∀ j,w.heap.size≤j→j<w.heap.size+1+1+1+1→y1.ownBlock≠some j:=fun j _ h2=>fY1.off2 d1 h2 (by (try simp) <;> omega);have hoff2:∀ j,w.heap.size≤j→j<w.heap.size+1+1+1+1→y2.ownBlock≠some j:=fun j _ h2=>fY2.off2 d2 h2 (by (try simp) <;> omega);have fr1:Fresh w (.slice none 0 0) y1:=fun j hj=>.inr (fY1.up d1 (by (try simp) <;> omega) (by (try simp) <;> omega) j hj);have fr2:Fresh w (.slice none 0 0) y2:=fun j hj=>.inr (fY2.up d2 (by (try simp) <;> omega) (by (try simp) <;> omega) j hj);obtain ⟨ya,yp,rfl,_⟩:=oY1.seg;obtain ⟨yb,yq,rfl,_⟩:=oY2.seg
  go_wp2
  refine bodyPost_ret (res_cct Tryz.results7 rfl (ldChan x.1 (.slice ya x.1.cells.length yp) (.slice yb x.1.words.length yq) (by simp [go_sem, *])) rfl (ldHand x.2.1 (by simp [go_sem, *]))) rfl ⟨⟨_,_,rfl,?_,?_,fr1,fr2⟩,by exact zB⟩
  · exact zP oY1 oY1 hoff1
  · exact zP oY2 oY2 hoff2
end Go.Proofs.YtkiingmgpobgnaaGreat
set_option linter.unusedSimpArgs false
set_option linter.unusedVariables false
namespace Go.Proofs.YtkiingmgpobgnaaGreat
open Go.RowKit
set_option linter.unusedSimpArgs false
attribute [local simp] bx_size
attribute [local go_sem ↓] zeroHand zeroChan toLHand toLChan toVHand toVChan storeHand storeChan storeHandC storeChanC
attribute [local go_sem ↓] eqHandV
theorem wLike_any (c:Ch) (a b a' b':Option Addr) (p q p' q':Nat) (w:World) (h1:Seg w w.heap.size a c.cells.length 3 (cellF c.cells)) (h2:Seg w w.heap.size b c.words.length 1 (intF c.words)) (h3:Seg w w.heap.size a' c.cells.length 3 (cellF c.cells)) (h4:Seg w w.heap.size b' c.words.length 1 (intF c.words)) (m1:c.cells.length≤maxLen) (m2:c.words.length≤maxLen) :
    Calls Tryz.prog 9 #[.agg (cvals c (.slice a c.cells.length p) (.slice b c.words.length q)),.agg (cvals c (.slice a' c.cells.length p') (.slice b' c.words.length q'))] w fun r w'=>r=.returned (.bool true)∧Below w.heap.size w w':=likeChan_any c a b a' b' p q p' q' w h1 h2 h3 h4 m1 m2
set_option maxRecDepth 100000 in
set_option maxHeartbeats 8000000 in
theorem fnSends_any (n cap:Nat) (a:Option Addr) (bs:Nat→Int) (w:World) (hbs:∀ j,0≤bs j∧bs j≤255) (h:Seg w w.heap.size a n 1 (fun j _=>.int .u8 (bs j))) :
    Calls Tryz.prog 3 #[.slice a n cap] w fun r w'=>r=.returned (.bool true)∧Below w.heap.size w w':=by
  have HB:=Lib.hid hbs
  have HS:=Lib.hid h
  clear hbs h
  by_cases hn:(4096:Int)<(n:Int)
  · go_enter Tryz.func3,Tryz.ntmps3
    go_wp2_with fail
    refine (big_any _ _ _ _).mono ?_
    rintro _ _ ⟨rfl,rfl⟩
    go_wp2
    go_ret
    exact ⟨rfl,Below.refl _ _⟩
  · have HC:Hid (Code w w.heap.size a n bs):=⟨by omega,HB.out,HS.out⟩
    clear HB HS
    go_enter Tryz.func3,Tryz.ntmps3
    go_wp2_with fail
    refine (big_any _ _ _ _).mono ?_
    rintro _ _ ⟨rfl,rfl⟩
    go_wp2_with fail
    refine (drawSendStep_any n cap a bs _ HC.out).mono ?_
    rintro _ w1 ⟨⟨c,hh,v1,v2,rfl,o1,o2,hl1,hl2⟩,hbw1⟩
    have hBw1:Below w.heap.size w w1:=bT (by exact zB) hbw1
    have hsw1:=hbw1.size
    obtain ⟨e1,p1,rfl,G1⟩:=o1.seg
    obtain ⟨e2,p2,rfl,G2⟩:=o2.seg
    have Z1:=Lib.hid (own_zcap o1)
    have Z2:=Lib.hid (own_zcap o2)
    have S1:=Lib.hid G1
    have S2:=Lib.hid G2
    clear o1 o2 G1 G2
    have l1:c.cells.length≤maxLen:=by unfold maxLen;omega
    have l2:c.words.length≤maxLen:=by unfold maxLen;omega
    have q1:c.cells.length≤1048576:=by omega
    have q2:c.words.length≤1048576:=by omega
    have KT:=Lib.hid (touch_send c hh)
    have PI:=Lib.hid fun a b p q W x1 x2 x3 x4=>sendStepI_any c hh a b p q W x1 x2 x3 x4 l1 l2
    have PS:=Lib.hid fun a b p q W x1 x2 x3 x4=>sSendStep_any c hh a b p q W x1 x2 x3 x4
    generalize sendStep c hh=x at *
    obtain ⟨c2,h2,ok⟩:=x
    clear hl1 hl2 hn
    go_wp2_with fail
    refine (PI.out _ _ _ _ _ (((S1).out.below (by exact zB)).more (by (try simp) <;> omega)) Z1.out (((S2).out.below (by exact zB)).more (by (try simp) <;> omega)) Z2.out).mono ?_
    rintro _ w2 ⟨⟨y1,y2,rfl,oY1,oY2,_,_⟩,hbw2⟩
    have hBw2:Below w.heap.size w w2:=bT (by exact zB) hbw2
    have hsw2:=hbw2.size;(try (simp at hsw2));have zz:=hQ hbw2 (b:=w1.heap.size);(first|(simp [go_sem,z_w1,l_w1] at zz)|(simp [go_sem] at zz));(try clear x_w1 f_w1);(try clear z_w1);have z_w1:=zz;clear zz;(try clear l_w1);obtain ⟨x_w1,f_w1,l_w1⟩:=bO z_w1;have zz:=hQ hbw2 (b:=w1.heap.size+1);(first|(simp [go_sem,z_w1p,l_w1p] at zz)|(simp [go_sem] at zz));(try clear x_w1p f_w1p);(try clear z_w1p);have z_w1p:=zz;clear zz;(try clear l_w1p);obtain ⟨x_w1p,f_w1p,l_w1p⟩:=bO z_w1p
    have kw1w2:w1.heap.size<w2.heap.size:=by omega
    have jw1w2:w1.heap.size<w2.heap.size+1:=by omega
    have kw1pw2:w1.heap.size+1<w2.heap.size:=by omega
    have jw1pw2:w1.heap.size+1<w2.heap.size+1:=by omega
    obtain ⟨ya,yp,rfl,GY1⟩:=oY1.seg
    obtain ⟨yb,yq,rfl,GY2⟩:=oY2.seg
    have M1:=own_max oY1
    have M2:=own_max oY2
    have SY1:=Lib.hid GY1
    have SY2:=Lib.hid GY2
    clear oY1 oY2 GY1 GY2
    have hK2:Below w1.heap.size w1 w2:=bT (by exact zB) hbw2
    clear hbw2
    go_wp2_with fail
    refine (PS.out _ _ _ _ _ (((S1).out.below (by exact zB)).more (by (try simp) <;> omega)) Z1.out (((S2).out.below (by exact zB)).more (by (try simp) <;> omega)) Z2.out).mono ?_
    rintro _ w3 ⟨⟨u1,u2,rfl,oU1,oU2,_,_⟩,hbw3⟩
    have hBw3:Below w.heap.size w w3:=bT (by exact zB) hbw3
    have hsw3:=hbw3.size;(try (simp at hsw3));have zz:=hQ hbw3 (b:=w1.heap.size);(first|(simp [go_sem,z_w1,l_w1,kw1w2,jw1w2,kw1pw2,jw1pw2] at zz)|(simp [go_sem,kw1w2,jw1w2,kw1pw2,jw1pw2] at zz));(try clear x_w1 f_w1);(try clear z_w1);have z_w1:=zz;clear zz;(try clear l_w1);obtain ⟨x_w1,f_w1,l_w1⟩:=bO z_w1;have zz:=hQ hbw3 (b:=w1.heap.size+1);(first|(simp [go_sem,z_w1p,l_w1p,kw1w2,jw1w2,kw1pw2,jw1pw2] at zz)|(simp [go_sem,kw1w2,jw1w2,kw1pw2,jw1pw2] at zz));(try clear x_w1p f_w1p);(try clear z_w1p);have z_w1p:=zz;clear zz;(try clear l_w1p);obtain ⟨x_w1p,f_w1p,l_w1p⟩:=bO z_w1p;have zz:=hQ hbw3 (b:=w2.heap.size);(first|(simp [go_sem,z_w2,l_w2,kw1w2,jw1w2,kw1pw2,jw1pw2] at zz)|(simp [go_sem,kw1w2,jw1w2,kw1pw2,jw1pw2] at zz));(try clear x_w2 f_w2);(try clear z_w2);have z_w2:=zz;clear zz;(try clear l_w2);obtain ⟨x_w2,f_w2,l_w2⟩:=bO z_w2;have zz:=hQ hbw3 (b:=w2.heap.size+1);(first|(simp [go_sem,z_w2p,l_w2p,kw1w2,jw1w2,kw1pw2,jw1pw2] at zz)|(simp [go_sem,kw1w2,jw1w2,kw1pw2,jw1pw2] at zz));(try clear x_w2p f_w2p);(try clear z_w2p);have z_w2p:=zz;clear zz;(try clear l_w2p);obtain ⟨x_w2p,f_w2p,l_w2p⟩:=bO z_w2p
    have kw1w3:w1.heap.size<w3.heap.size:=by omega
    have jw1w3:w1.heap.size<w3.heap.size+1:=by omega
    have kw1pw3:w1.heap.size+1<w3.heap.size:=by omega
    have jw1pw3:w1.heap.size+1<w3.heap.size+1:=by omega
    have kw2w3:w2.heap.size<w3.heap.size:=by omega
    have jw2w3:w2.heap.size<w3.heap.size+1:=by omega
    have kw2pw3:w2.heap.size+1<w3.heap.size:=by omega
    have jw2pw3:w2.heap.size+1<w3.heap.size+1:=by omega
    obtain ⟨ua,up,rfl,GU1⟩:=oU1.seg
    obtain ⟨ub,uq,rfl,GU2⟩:=oU2.seg
    have SU1:=Lib.hid GU1
    have SU2:=Lib.hid GU2
    clear oU1 oU2 GU1 GU2
    have hK3:Below w1.heap.size w1 w3:=bT (by exact zB) hbw3
    have hJ3:Below w2.heap.size w2 w3:=bT (by exact zB) hbw3
    clear hbw3
    go_wp2_with fail
    refine (wLike_any c2 ya yb ua ub yp yq up uq _ (((SY1).out.below (by exact zB)).more (by (try simp) <;> omega)) (((SY2).out.below (by exact zB)).more (by (try simp) <;> omega)) (((SU1).out.below (by exact zB)).more (by (try simp) <;> omega)) (((SU2).out.below (by exact zB)).more (by (try simp) <;> omega)) M1 M2).mono ?_
    rintro _ w4 ⟨rfl,hbw4⟩
    have hBw4:Below w.heap.size w w4:=bT (by exact zB) hbw4
    have hsw4:=hbw4.size;(try (simp at hsw4));have zz:=hQ hbw4 (b:=w1.heap.size);(first|(simp [go_sem,z_w1,l_w1,kw1w3,jw1w3,kw1pw3,jw1pw3,kw2w3,jw2w3,kw2pw3,jw2pw3] at zz)|(simp [go_sem,kw1w3,jw1w3,kw1pw3,jw1pw3,kw2w3,jw2w3,kw2pw3,jw2pw3] at zz));(try clear x_w1 f_w1);(try clear z_w1);have z_w1:=zz;clear zz;(try clear l_w1);obtain ⟨x_w1,f_w1,l_w1⟩:=bO z_w1;have zz:=hQ hbw4 (b:=w1.heap.size+1);(first|(simp [go_sem,z_w1p,l_w1p,kw1w3,jw1w3,kw1pw3,jw1pw3,kw2w3,jw2w3,kw2pw3,jw2pw3] at zz)|(simp [go_sem,kw1w3,jw1w3,kw1pw3,jw1pw3,kw2w3,jw2w3,kw2pw3,jw2pw3] at zz));(try clear x_w1p f_w1p);(try clear z_w1p);have z_w1p:=zz;clear zz;(try clear l_w1p);obtain ⟨x_w1p,f_w1p,l_w1p⟩:=bO z_w1p;have zz:=hQ hbw4 (b:=w2.heap.size);(first|(simp [go_sem,z_w2,l_w2,kw1w3,jw1w3,kw1pw3,jw1pw3,kw2w3,jw2w3,kw2pw3,jw2pw3] at zz)|(simp [go_sem,kw1w3,jw1w3,kw1pw3,jw1pw3,kw2w3,jw2w3,kw2pw3,jw2pw3] at zz));(try clear x_w2 f_w2);(try clear z_w2);have z_w2:=zz;clear zz;(try clear l_w2);obtain ⟨x_w2,f_w2,l_w2⟩:=bO z_w2;have zz:=hQ hbw4 (b:=w2.heap.size+1);(first|(simp [go_sem,z_w2p,l_w2p,kw1w3,jw1w3,kw1pw3,jw1pw3,kw2w3,jw2w3,kw2pw3,jw2pw3] at zz)|(simp [go_sem,kw1w3,jw1w3,kw1pw3,jw1pw3,kw2w3,jw2w3,kw2pw3,jw2pw3] at zz));(try clear x_w2p f_w2p);(try clear z_w2p);have z_w2p:=zz;clear zz;(try clear l_w2p);obtain ⟨x_w2p,f_w2p,l_w2p⟩:=bO z_w2p;have zz:=hQ hbw4 (b:=w3.heap.size);(first|(simp [go_sem,z_w3,l_w3,kw1w3,jw1w3,kw1pw3,jw1pw3,kw2w3,jw2w3,kw2pw3,jw2pw3] at zz)|(simp [go_sem,kw1w3,jw1w3,kw1pw3,jw1pw3,kw2w3,jw2w3,kw2pw3,jw2pw3] at zz));(try clear x_w3 f_w3);(try clear z_w3);have z_w3:=zz;clear zz;(try clear l_w3);obtain ⟨x_w3,f_w3,l_w3⟩:=bO z_w3;have zz:=hQ hbw4 (b:=w3.heap.size+1);(first|(simp [go_sem,z_w3p,l_w3p,kw1w3,jw1w3,kw1pw3,jw1pw3,kw2w3,jw2w3,kw2pw3,jw2pw3] at zz)|(simp [go_sem,kw1w3,jw1w3,kw1pw3,jw1pw3,kw2w3,jw2w3,kw2pw3,jw2pw3] at zz));(try clear x_w3p f_w3p);(try clear z_w3p);have z_w3p:=zz;clear zz;(try clear l_w3p);obtain ⟨x_w3p,f_w3p,l_w3p⟩:=bO z_w3p
    have kw1w4:w1.heap.size<w4.heap.size:=by omega
    have jw1w4:w1.heap.size<w4.heap.size+1:=by omega
    have kw1pw4:w1.heap.size+1<w4.heap.size:=by omega
    have jw1pw4:w1.heap.size+1<w4.heap.size+1:=by omega
    have kw2w4:w2.heap.size<w4.heap.size:=by omega
    have jw2w4:w2.heap.size<w4.heap.size+1:=by omega
    have kw2pw4:w2.heap.size+1<w4.heap.size:=by omega
    have jw2pw4:w2.heap.size+1<w4.heap.size+1:=by omega
    have kw3w4:w3.heap.size<w4.heap.size:=by omega
    have jw3w4:w3.heap.size<w4.heap.size+1:=by omega
    have kw3pw4:w3.heap.size+1<w4.heap.size:=by omega
    have jw3pw4:w3.heap.size+1<w4.heap.size+1:=by omega
    have hK4:Below w1.heap.size w1 w4:=bT (by exact zB) hbw4
    have hJ4:Below w2.heap.size w2 w4:=bT (by exact zB) hbw4
    clear hbw4
    have hE:eqHa h2 h2=true:=eqHa_self h2
    cases ok with
    | false =>
      go_wp2
      go_ret
      exact ⟨rfl,by exact zB⟩
    | true =>
      obtain ⟨k1,k2,k3,_,_⟩:=KT.out rfl
      dsimp only at k1 k2 k3
      have q3:c2.cells.length≤1048576:=by have:=(chan_len k1).1;omega
      have q4:c2.words.length≤1048576:=by have:=(chan_len k1).2;omega
      have k4:((touchedN c c2:Nat):Int)≤1:=by omega
      clear k3
      go_wp2_with fail
      refine (iChanOk_any c2 ya yb yp yq _ (((SY1).out.below (by exact zB)).more (by (try simp) <;> omega)) (((SY2).out.below (by exact zB)).more (by (try simp) <;> omega)) M1 M2).mono ?_
      rintro _ w5 ⟨rfl,hbw5⟩
      have hBw5:Below w.heap.size w w5:=bT (by exact zB) hbw5
      have hsw5:=hbw5.size;(try (simp at hsw5));have zz:=hQ hbw5 (b:=w1.heap.size);(first|(simp [go_sem,z_w1,l_w1,kw1w4,jw1w4,kw1pw4,jw1pw4,kw2w4,jw2w4,kw2pw4,jw2pw4,kw3w4,jw3w4,kw3pw4,jw3pw4] at zz)|(simp [go_sem,kw1w4,jw1w4,kw1pw4,jw1pw4,kw2w4,jw2w4,kw2pw4,jw2pw4,kw3w4,jw3w4,kw3pw4,jw3pw4] at zz));(try clear x_w1 f_w1);(try clear z_w1);have z_w1:=zz;clear zz;(try clear l_w1);obtain ⟨x_w1,f_w1,l_w1⟩:=bO z_w1;have zz:=hQ hbw5 (b:=w1.heap.size+1);(first|(simp [go_sem,z_w1p,l_w1p,kw1w4,jw1w4,kw1pw4,jw1pw4,kw2w4,jw2w4,kw2pw4,jw2pw4,kw3w4,jw3w4,kw3pw4,jw3pw4] at zz)|(simp [go_sem,kw1w4,jw1w4,kw1pw4,jw1pw4,kw2w4,jw2w4,kw2pw4,jw2pw4,kw3w4,jw3w4,kw3pw4,jw3pw4] at zz));(try clear x_w1p f_w1p);(try clear z_w1p);have z_w1p:=zz;clear zz;(try clear l_w1p);obtain ⟨x_w1p,f_w1p,l_w1p⟩:=bO z_w1p;have zz:=hQ hbw5 (b:=w2.heap.size);(first|(simp [go_sem,z_w2,l_w2,kw1w4,jw1w4,kw1pw4,jw1pw4,kw2w4,jw2w4,kw2pw4,jw2pw4,kw3w4,jw3w4,kw3pw4,jw3pw4] at zz)|(simp [go_sem,kw1w4,jw1w4,kw1pw4,jw1pw4,kw2w4,jw2w4,kw2pw4,jw2pw4,kw3w4,jw3w4,kw3pw4,jw3pw4] at zz));(try clear x_w2 f_w2);(try clear z_w2);have z_w2:=zz;clear zz;(try clear l_w2);obtain ⟨x_w2,f_w2,l_w2⟩:=bO z_w2;have zz:=hQ hbw5 (b:=w2.heap.size+1);(first|(simp [go_sem,z_w2p,l_w2p,kw1w4,jw1w4,kw1pw4,jw1pw4,kw2w4,jw2w4,kw2pw4,jw2pw4,kw3w4,jw3w4,kw3pw4,jw3pw4] at zz)|(simp [go_sem,kw1w4,jw1w4,kw1pw4,jw1pw4,kw2w4,jw2w4,kw2pw4,jw2pw4,kw3w4,jw3w4,kw3pw4,jw3pw4] at zz));(try clear x_w2p f_w2p);(try clear z_w2p);have z_w2p:=zz;clear zz;(try clear l_w2p);obtain ⟨x_w2p,f_w2p,l_w2p⟩:=bO z_w2p;have zz:=hQ hbw5 (b:=w3.heap.size);(first|(simp [go_sem,z_w3,l_w3,kw1w4,jw1w4,kw1pw4,jw1pw4,kw2w4,jw2w4,kw2pw4,jw2pw4,kw3w4,jw3w4,kw3pw4,jw3pw4] at zz)|(simp [go_sem,kw1w4,jw1w4,kw1pw4,jw1pw4,kw2w4,jw2w4,kw2pw4,jw2pw4,kw3w4,jw3w4,kw3pw4,jw3pw4] at zz));(try clear x_w3 f_w3);(try clear z_w3);have z_w3:=zz;clear zz;(try clear l_w3);obtain ⟨x_w3,f_w3,l_w3⟩:=bO z_w3;have zz:=hQ hbw5 (b:=w3.heap.size+1);(first|(simp [go_sem,z_w3p,l_w3p,kw1w4,jw1w4,kw1pw4,jw1pw4,kw2w4,jw2w4,kw2pw4,jw2pw4,kw3w4,jw3w4,kw3pw4,jw3pw4] at zz)|(simp [go_sem,kw1w4,jw1w4,kw1pw4,jw1pw4,kw2w4,jw2w4,kw2pw4,jw2pw4,kw3w4,jw3w4,kw3pw4,jw3pw4] at zz));(try clear x_w3p f_w3p);(try clear z_w3p);have z_w3p:=zz;clear zz;(try clear l_w3p);obtain ⟨x_w3p,f_w3p,l_w3p⟩:=bO z_w3p
      have kw1w5:w1.heap.size<w5.heap.size:=by omega
      have jw1w5:w1.heap.size<w5.heap.size+1:=by omega
      have kw1pw5:w1.heap.size+1<w5.heap.size:=by omega
      have jw1pw5:w1.heap.size+1<w5.heap.size+1:=by omega
      have kw2w5:w2.heap.size<w5.heap.size:=by omega
      have jw2w5:w2.heap.size<w5.heap.size+1:=by omega
      have kw2pw5:w2.heap.size+1<w5.heap.size:=by omega
      have jw2pw5:w2.heap.size+1<w5.heap.size+1:=by omega
      have kw3w5:w3.heap.size<w5.heap.size:=by omega
      have jw3w5:w3.heap.size<w5.heap.size+1:=by omega
      have kw3pw5:w3.heap.size+1<w5.heap.size:=by omega
      have jw3pw5:w3.heap.size+1<w5.heap.size+1:=by omega
      have hK5:Below w1.heap.size w1 w5:=bT (by exact zB) hbw5
      have hJ5:Below w2.heap.size w2 w5:=bT (by exact zB) hbw5
      clear hbw5
      rw [k1]
      go_wp2_with fail
      refine (handOk_any h2 _).mono ?_
      rintro _ w6 ⟨rfl,hbw6⟩
      have hBw6:Below w.heap.size w w6:=bT (by exact zB) hbw6
      have hsw6:=hbw6.size;(try (simp at hsw6));have zz:=hQ hbw6 (b:=w1.heap.size);(first|(simp [go_sem,z_w1,l_w1,kw1w5,jw1w5,kw1pw5,jw1pw5,kw2w5,jw2w5,kw2pw5,jw2pw5,kw3w5,jw3w5,kw3pw5,jw3pw5] at zz)|(simp [go_sem,kw1w5,jw1w5,kw1pw5,jw1pw5,kw2w5,jw2w5,kw2pw5,jw2pw5,kw3w5,jw3w5,kw3pw5,jw3pw5] at zz));(try clear x_w1 f_w1);(try clear z_w1);have z_w1:=zz;clear zz;(try clear l_w1);obtain ⟨x_w1,f_w1,l_w1⟩:=bO z_w1;have zz:=hQ hbw6 (b:=w1.heap.size+1);(first|(simp [go_sem,z_w1p,l_w1p,kw1w5,jw1w5,kw1pw5,jw1pw5,kw2w5,jw2w5,kw2pw5,jw2pw5,kw3w5,jw3w5,kw3pw5,jw3pw5] at zz)|(simp [go_sem,kw1w5,jw1w5,kw1pw5,jw1pw5,kw2w5,jw2w5,kw2pw5,jw2pw5,kw3w5,jw3w5,kw3pw5,jw3pw5] at zz));(try clear x_w1p f_w1p);(try clear z_w1p);have z_w1p:=zz;clear zz;(try clear l_w1p);obtain ⟨x_w1p,f_w1p,l_w1p⟩:=bO z_w1p;have zz:=hQ hbw6 (b:=w2.heap.size);(first|(simp [go_sem,z_w2,l_w2,kw1w5,jw1w5,kw1pw5,jw1pw5,kw2w5,jw2w5,kw2pw5,jw2pw5,kw3w5,jw3w5,kw3pw5,jw3pw5] at zz)|(simp [go_sem,kw1w5,jw1w5,kw1pw5,jw1pw5,kw2w5,jw2w5,kw2pw5,jw2pw5,kw3w5,jw3w5,kw3pw5,jw3pw5] at zz));(try clear x_w2 f_w2);(try clear z_w2);have z_w2:=zz;clear zz;(try clear l_w2);obtain ⟨x_w2,f_w2,l_w2⟩:=bO z_w2;have zz:=hQ hbw6 (b:=w2.heap.size+1);(first|(simp [go_sem,z_w2p,l_w2p,kw1w5,jw1w5,kw1pw5,jw1pw5,kw2w5,jw2w5,kw2pw5,jw2pw5,kw3w5,jw3w5,kw3pw5,jw3pw5] at zz)|(simp [go_sem,kw1w5,jw1w5,kw1pw5,jw1pw5,kw2w5,jw2w5,kw2pw5,jw2pw5,kw3w5,jw3w5,kw3pw5,jw3pw5] at zz));(try clear x_w2p f_w2p);(try clear z_w2p);have z_w2p:=zz;clear zz;(try clear l_w2p);obtain ⟨x_w2p,f_w2p,l_w2p⟩:=bO z_w2p;have zz:=hQ hbw6 (b:=w3.heap.size);(first|(simp [go_sem,z_w3,l_w3,kw1w5,jw1w5,kw1pw5,jw1pw5,kw2w5,jw2w5,kw2pw5,jw2pw5,kw3w5,jw3w5,kw3pw5,jw3pw5] at zz)|(simp [go_sem,kw1w5,jw1w5,kw1pw5,jw1pw5,kw2w5,jw2w5,kw2pw5,jw2pw5,kw3w5,jw3w5,kw3pw5,jw3pw5] at zz));(try clear x_w3 f_w3);(try clear z_w3);have z_w3:=zz;clear zz;(try clear l_w3);obtain ⟨x_w3,f_w3,l_w3⟩:=bO z_w3;have zz:=hQ hbw6 (b:=w3.heap.size+1);(first|(simp [go_sem,z_w3p,l_w3p,kw1w5,jw1w5,kw1pw5,jw1pw5,kw2w5,jw2w5,kw2pw5,jw2pw5,kw3w5,jw3w5,kw3pw5,jw3pw5] at zz)|(simp [go_sem,kw1w5,jw1w5,kw1pw5,jw1pw5,kw2w5,jw2w5,kw2pw5,jw2pw5,kw3w5,jw3w5,kw3pw5,jw3pw5] at zz));(try clear x_w3p f_w3p);(try clear z_w3p);have z_w3p:=zz;clear zz;(try clear l_w3p);obtain ⟨x_w3p,f_w3p,l_w3p⟩:=bO z_w3p
      have kw1w6:w1.heap.size<w6.heap.size:=by omega
      have jw1w6:w1.heap.size<w6.heap.size+1:=by omega
      have kw1pw6:w1.heap.size+1<w6.heap.size:=by omega
      have jw1pw6:w1.heap.size+1<w6.heap.size+1:=by omega
      have kw2w6:w2.heap.size<w6.heap.size:=by omega
      have jw2w6:w2.heap.size<w6.heap.size+1:=by omega
      have kw2pw6:w2.heap.size+1<w6.heap.size:=by omega
      have jw2pw6:w2.heap.size+1<w6.heap.size+1:=by omega
      have kw3w6:w3.heap.size<w6.heap.size:=by omega
      have jw3w6:w3.heap.size<w6.heap.size+1:=by omega
      have kw3pw6:w3.heap.size+1<w6.heap.size:=by omega
      have jw3pw6:w3.heap.size+1<w6.heap.size+1:=by omega
      have hK6:Below w1.heap.size w1 w6:=bT (by exact zB) hbw6
      have hJ6:Below w2.heap.size w2 w6:=bT (by exact zB) hbw6
      clear hbw6
      rw [k2]
      go_wp2_with fail
      refine (touched_any c c2 e1 e2 ya yb p1 p2 yp yq _ (((S1).out.below (by exact zB)).more (by (try simp) <;> omega)) (((S2).out.below (by exact zB)).more (by (try simp) <;> omega)) (((SY1).out.below (by exact zB)).more (by (try simp) <;> omega)) (((SY2).out.below (by exact zB)).more (by (try simp) <;> omega)) q1 q2 q3 q4).mono ?_
      rintro _ w7 ⟨rfl,hbw7⟩
      have hBw7:Below w.heap.size w w7:=bT (by exact zB) hbw7
      have hsw7:=hbw7.size;(try (simp at hsw7));have zz:=hQ hbw7 (b:=w1.heap.size);(first|(simp [go_sem,z_w1,l_w1,kw1w6,jw1w6,kw1pw6,jw1pw6,kw2w6,jw2w6,kw2pw6,jw2pw6,kw3w6,jw3w6,kw3pw6,jw3pw6] at zz)|(simp [go_sem,kw1w6,jw1w6,kw1pw6,jw1pw6,kw2w6,jw2w6,kw2pw6,jw2pw6,kw3w6,jw3w6,kw3pw6,jw3pw6] at zz));(try clear x_w1 f_w1);(try clear z_w1);have z_w1:=zz;clear zz;(try clear l_w1);obtain ⟨x_w1,f_w1,l_w1⟩:=bO z_w1;have zz:=hQ hbw7 (b:=w1.heap.size+1);(first|(simp [go_sem,z_w1p,l_w1p,kw1w6,jw1w6,kw1pw6,jw1pw6,kw2w6,jw2w6,kw2pw6,jw2pw6,kw3w6,jw3w6,kw3pw6,jw3pw6] at zz)|(simp [go_sem,kw1w6,jw1w6,kw1pw6,jw1pw6,kw2w6,jw2w6,kw2pw6,jw2pw6,kw3w6,jw3w6,kw3pw6,jw3pw6] at zz));(try clear x_w1p f_w1p);(try clear z_w1p);have z_w1p:=zz;clear zz;(try clear l_w1p);obtain ⟨x_w1p,f_w1p,l_w1p⟩:=bO z_w1p;have zz:=hQ hbw7 (b:=w2.heap.size);(first|(simp [go_sem,z_w2,l_w2,kw1w6,jw1w6,kw1pw6,jw1pw6,kw2w6,jw2w6,kw2pw6,jw2pw6,kw3w6,jw3w6,kw3pw6,jw3pw6] at zz)|(simp [go_sem,kw1w6,jw1w6,kw1pw6,jw1pw6,kw2w6,jw2w6,kw2pw6,jw2pw6,kw3w6,jw3w6,kw3pw6,jw3pw6] at zz));(try clear x_w2 f_w2);(try clear z_w2);have z_w2:=zz;clear zz;(try clear l_w2);obtain ⟨x_w2,f_w2,l_w2⟩:=bO z_w2;have zz:=hQ hbw7 (b:=w2.heap.size+1);(first|(simp [go_sem,z_w2p,l_w2p,kw1w6,jw1w6,kw1pw6,jw1pw6,kw2w6,jw2w6,kw2pw6,jw2pw6,kw3w6,jw3w6,kw3pw6,jw3pw6] at zz)|(simp [go_sem,kw1w6,jw1w6,kw1pw6,jw1pw6,kw2w6,jw2w6,kw2pw6,jw2pw6,kw3w6,jw3w6,kw3pw6,jw3pw6] at zz));(try clear x_w2p f_w2p);(try clear z_w2p);have z_w2p:=zz;clear zz;(try clear l_w2p);obtain ⟨x_w2p,f_w2p,l_w2p⟩:=bO z_w2p;have zz:=hQ hbw7 (b:=w3.heap.size);(first|(simp [go_sem,z_w3,l_w3,kw1w6,jw1w6,kw1pw6,jw1pw6,kw2w6,jw2w6,kw2pw6,jw2pw6,kw3w6,jw3w6,kw3pw6,jw3pw6] at zz)|(simp [go_sem,kw1w6,jw1w6,kw1pw6,jw1pw6,kw2w6,jw2w6,kw2pw6,jw2pw6,kw3w6,jw3w6,kw3pw6,jw3pw6] at zz));(try clear x_w3 f_w3);(try clear z_w3);have z_w3:=zz;clear zz;(try clear l_w3);obtain ⟨x_w3,f_w3,l_w3⟩:=bO z_w3;have zz:=hQ hbw7 (b:=w3.heap.size+1);(first|(simp [go_sem,z_w3p,l_w3p,kw1w6,jw1w6,kw1pw6,jw1pw6,kw2w6,jw2w6,kw2pw6,jw2pw6,kw3w6,jw3w6,kw3pw6,jw3pw6] at zz)|(simp [go_sem,kw1w6,jw1w6,kw1pw6,jw1pw6,kw2w6,jw2w6,kw2pw6,jw2pw6,kw3w6,jw3w6,kw3pw6,jw3pw6] at zz));(try clear x_w3p f_w3p);(try clear z_w3p);have z_w3p:=zz;clear zz;(try clear l_w3p);obtain ⟨x_w3p,f_w3p,l_w3p⟩:=bO z_w3p
      have kw1w7:w1.heap.size<w7.heap.size:=by omega
      have jw1w7:w1.heap.size<w7.heap.size+1:=by omega
      have kw1pw7:w1.heap.size+1<w7.heap.size:=by omega
      have jw1pw7:w1.heap.size+1<w7.heap.size+1:=by omega
      have kw2w7:w2.heap.size<w7.heap.size:=by omega
      have jw2w7:w2.heap.size<w7.heap.size+1:=by omega
      have kw2pw7:w2.heap.size+1<w7.heap.size:=by omega
      have jw2pw7:w2.heap.size+1<w7.heap.size+1:=by omega
      have kw3w7:w3.heap.size<w7.heap.size:=by omega
      have jw3w7:w3.heap.size<w7.heap.size+1:=by omega
      have kw3pw7:w3.heap.size+1<w7.heap.size:=by omega
      have jw3pw7:w3.heap.size+1<w7.heap.size+1:=by omega
      go_wp2
      go_ret
      exact ⟨rfl,by exact zB⟩
end Go.Proofs.YtkiingmgpobgnaaGreat
set_option maxRecDepth 100000
set_option linter.unusedSimpArgs false
set_option linter.unusedVariables false
namespace Go.Proofs.YtkiingmgpobgnaaGreat
open Go.ChangeShapes Go.WideShapes Go.ChangeAt Go.RowKit Go.Deep
theorem own:ownKnob Tryz.prog.godebug=none:=by kernel_rfl
theorem laidOut:laidOutB Tryz.prog=true:=by kernel_rfl
section
variable {H:Type} {enc:TypeId × Value→H} {P:Program} {w:World} {spare:Nat→Bool} {held:Bool}
/-- A slice of elements that can be read lies in memory as said. -/
theorem dSlice {α:Type} (k:Nat) (val:α→Nat→Value) (Q:α→Prop) (d0:α) {t e:TypeId} (ht:P.underlying t=some (.slice e)) (hk:P.cellsOf e=k) (hk0:0<k)
    (dec:∀ (fuel:Nat) (cs:List Value) (x:DataW H × List MemPlace),DataW.trod enc P w 0 spare held fuel e cs=some x→∃ c:α,Q c∧∀ j,j<k→cs[j]?=some (val c j))
    {fuel:Nat} {cs:List Value} {x:DataW H × List MemPlace} (h:DataW.trod enc P w 0 spare held fuel t cs=some x) :
    ∃ (a:Option Addr) (l:List α) (cap:Nat),cs=[.slice a l.length cap]∧l.length≤cap∧cap≤maxLen∧(∀ c ∈ l,Q c)∧Seg w w.heap.size a l.length k (fun i j=>val (l.getD i d0) j):=by
  rcases open_slice ht h with ⟨hcs,_⟩|⟨ad,len,cap,m,n,D,Pl,hcs,_,hl,hm,hmm,_,hi⟩
  · exact ⟨none,[],0,hcs,Nat.le_refl _,Nat.zero_le _,by simp,.inl rfl⟩
  · have hlm:len≤m:=by rw [hmm];split <;> omega
    have hx:∀ i:Nat,∃ c:α,i<len→(Q c∧∀ j,j<k→w.cell? (ad.add (i*k+j))=some (val c j)):=by
      intro i
      by_cases hlt:i<len
      · obtain ⟨cs',hc,htr⟩:=hi i (by omega)
        rw [hk] at hc
        obtain ⟨_,_,hat⟩:=World.cells?_some hc
        obtain ⟨c,hq,hv⟩:=dec _ _ _ htr
        refine ⟨c,fun _=>⟨hq,fun j hj=>?_⟩⟩
        rw [← Go.Deep.add_add,hat j hj,hv j hj]
      · exact ⟨d0,fun h=>absurd h hlt⟩
    obtain ⟨g,hg⟩:=Classical.axiomOfChoice hx
    refine ⟨some ad,(List.range len).map g,cap,by simpa using hcs,by simpa using hl,hm,?_,?_⟩
    · intro c hc
      obtain ⟨i,hi',rfl⟩:=List.mem_map.1 hc
      exact (hg i (List.mem_range.1 hi')).1
    · by_cases h0:len=0
      · exact .inl (by simpa using h0)
      · obtain ⟨b,off,spot⟩:=ad
        have hz:=(hg 0 (by omega)).2 0 hk0
        have hspot:spot=none:=by simpa [Addr.add] using World.cell?_spot hz
        subst hspot
        refine .inr ⟨b,off,rfl,?_,fun i j hi' hj=>?_⟩
        · have:=block_lt_of_cell hz
          simpa [Addr.add] using this
        · have hlt:i<len:=by simpa using hi'
          have:=(hg i hlt).2 j hj
          rw [add_plain,← Nat.add_assoc] at this
          rw [this]
          simp [List.getD,hlt]
end
section
variable {H:Type} {enc:TypeId × Value→H} {P:Program} {w:World} {spare:Nat→Bool} {held:Bool}
end
def C3.wf (c:C3):Prop:=(Lit.int .i64 c.s).wf=true∧(Lit.int .i64 c.e).wf=true∧(Lit.int .i64 c.t).wf=true
section
variable {H:Type} {enc:TypeId × Value→H} {w:World} {spare:Nat→Bool} {held:Bool}
end
end Go.Proofs.YtkiingmgpobgnaaGreat
set_option maxRecDepth 100000
set_option linter.unusedSimpArgs false
set_option linter.unusedVariables false
namespace Go.Proofs.YtkiingmgpobgnaaGreat
open Go.ChangeShapes Go.WideShapes Go.ChangeAt Go.RowKit Go.Deep
section
variable {H:Type} {enc:TypeId × Value→H} {w:World} {spare:Nat→Bool} {held:Bool}
set_option maxRecDepth 100000 in
/-- Bytes as an argument. -/
theorem oBytes {r:Reach} {b0:Nat} {v:Value} {d:DataW H} {p:List MemPlace} (hv:Value.okWide Tryz.prog w r b0 22 v) (h:DataW.Trod enc Tryz.prog w 0 spare held 22 v d p) :
    ∃ (a:Option Addr) (n cap:Nat) (bs:Nat→Int),v=.slice a n cap∧n≤maxLen∧(∀ j,0≤bs j∧bs j≤255)∧Seg w w.heap.size a n 1 (fun j _=>.int .u8 (bs j)):=by
  obtain ⟨a,len,cap,rfl⟩:=okWide_slice Tryz.underlying22 hv
  obtain ⟨fuel,hf⟩:=h
  obtain ⟨a',l,cap',hcs,h1,h2,h3,h4⟩:=dSlice 1 (fun (c:Int) _=>.int .u8 c) (fun c=>0≤c∧c≤255) 0 Tryz.underlying22 (by kernel_rfl) (by decide) (fun fuel cs x hx=>by
    obtain ⟨c,rfl,_,hw⟩:=DataW.trod_int Tryz.underlying5 hx
    refine ⟨c,?_,fun j hj=>?_⟩
    · simp [Lit.wf,IntKind.min,IntKind.max,IntKind.signed,IntKind.bits] at hw;omega
    · have:j=0:=by omega
      subst this;rfl) hf
  simp [Value.cells] at hcs
  obtain ⟨rfl,rfl,rfl⟩:=hcs
  refine ⟨a,l.length,cap,fun j=>l.getD j 0,rfl,Nat.le_trans h1 h2,fun j=>?_,h4⟩
  by_cases hj:j<l.length
  · have:=h3 l[j] (List.getElem_mem hj)
    simpa [List.getD,hj] using this
  · have:l.getD j 0=0:=by simp [List.getD,Nat.le_of_not_lt hj]
    show 0≤l.getD j 0∧l.getD j 0≤255
    rw [this];omega
end
end Go.Proofs.YtkiingmgpobgnaaGreat
set_option linter.unusedSimpArgs false
set_option linter.unusedVariables false
namespace Go.Proofs.YtkiingmgpobgnaaGreat
open Go.ChangeShapes Go.WideShapes Go.ChangeAt Go.RowKit
set_option linter.unusedVariables false
namespace FnSends
set_option maxRecDepth 100000 in
theorem lifted (os:Os) (started:os.Started) (H:Type) (enc:TypeId × Value→H) :
    ReturnsInHanded {} Tryz.checked os 3 .any (Rows.fnSendsSpec.pre6 enc Tryz.prog Tryz.f3 Rows.fnSendsRow.domain false) (Rows.fnSendsSpec.post enc Tryz.prog Tryz.f3 false true false false):=by
  refine returnsInHanded_of_change (C:=Tryz.checked) own started (by kernel_rfl) Tryz.func3
    (ChangeSpec.witness6 (enc:=enc) (C:=Tryz.checked) false ⟨#[],#[.slice none 0 0],[]⟩ 8 (by kernel_rfl) (by kernel_rfl) (by kernel_rfl) (by kernel_rfl)) ?_
  intro W base args ds gs before hval0 hW hcnd _
  have hval:∀ (j:Nat) t v,Tryz.f3.params[j]?=some t→args[j]?=some v→Value.okWide Tryz.prog W .any base t v:=hval0
  have hW':=hW
  obtain ⟨p,q,hA0,hV,rfl,hfz,hnd⟩:=hW
  have hA:DataW.TrodAll enc Tryz.prog W 0 (fun _=>true) true Tryz.f3.params.toList args.toList ds p:=hA0
  rw [Tryz.params3] at hA hval
  obtain ⟨v0,vs0,d0,ds0,p0,q0,hargs,rfl,rfl,h0,r0⟩:=trodAll_cons hA
  obtain ⟨rfl,rfl,rfl⟩:=trodAll_nil r0
  obtain rfl:args=#[v0]:=by cases args;simp_all
  obtain ⟨rfl,rfl⟩:=trodVars_none hV
  have k0:=h0
  have lt0:∀ x ∈ p0,x.block<W.heap.size:=by obtain ⟨m,hm⟩:=k0;exact DataW.trod_lt m _ _ _ hm
  obtain ⟨a0,n0,cap0,l0,rfl,m0,z0,S0⟩:=oBytes (hval 0 22 v0 rfl rfl) h0
  clear hA0 hval0
  refine (fnSends_any n0 cap0 a0 l0 W z0 S0).mono fun e W' ⟨he,bel⟩=>?_
  subst he
  exact ⟨_,rfl,_,_,_,[],_,[],hW',trodAll_mk1 (shut_bool Tryz.underlying4 _),(trodAll_cons_mk (Below.trod laidOut (by kernel_rfl) (of_decide_eq_true (by kernel_rfl)) k0 bel lt0) trodAll_mk0),rfl,bel.frame _,fun h=>by cases h⟩
theorem over:Rows.fnSendsRow.holds Tryz.pinned (OpenSpec.ofChange Rows.fnSendsSpec) :=
  OpenClaim.holds_of_wide 3 Tryz.f3 rfl rfl rfl rfl rfl rfl rfl ⟨rfl,rfl,rfl,rfl,rfl⟩ rfl rfl rfl rfl rfl (by kernel_rfl) Tryz.func3 (by kernel_rfl)
    (of_decide_eq_true (by kernel_rfl)) (by unfold Func.isWrapper;first|(rw [if_pos (by decide +kernel)];kernel_rfl)|(rw [if_neg (by decide +kernel)];exact ⟨rfl,rfl⟩))
    (fun os started H enc _=>lifted os started H enc)
end FnSends
/-- The statement. -/
theorem fnSends_proved:Rows.FnSendsSaid:=FnSends.over

end Go.Proofs.YtkiingmgpobgnaaGreat
